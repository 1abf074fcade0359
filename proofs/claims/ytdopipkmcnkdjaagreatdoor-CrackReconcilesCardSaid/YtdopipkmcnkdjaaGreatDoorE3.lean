/- Part 3. -/
import Derived.Test.YtdopipkmcnkdjaaGreatDoorE2
set_option linter.all false
noncomputable section

namespace Go.Proofs.YtdopipkmcnkdjaaGreatDoor
open Go Go.RowKit Go.Proofs
namespace Pe
variable {D:Type}
abbrev Gx:=List (Value×A1×Nat)
def uO (es:Gx):List MapEntry:=es.map fun p=>⟨p.1,undef,p.2.2⟩
def caU (P:Program) (kt:TypeId) (k:Value) (es:Gx):Option (Option Nat) :=
 match ev P (Instr.findKey kt k (uO es)) with
 |some (some p)=>some (some p.1)
 |some none=>some none
 |none=>none
def nthE:Gx->Nat->Option (Value×A1×Nat)
 |[],_=>none
 |p::_,0=>some p
 |_::l,n+1=>nthE l n
def setE (x:Value×A1×Nat):Gx->Nat->Gx
 |[],_=>[]
 |_::l,0=>x::l
 |p::l,n+1=>p::setE x l n
def delE:Gx->Nat->Gx
 |[],_=>[]
 |_::l,0=>l
 |p::l,n+1=>p::delE l n
def chc:Gx->Bool
 |[]=>true
 |_::_=>false
def cfh (M:cR D):Option AV->Option (Nat×Gx×Nat)
 |some (.val (.one (.fn b)))=>match M b with
  |some (.mp es ck)=>some (b,es,ck)
  |_=>none
 |_=>none
def chx (P:Program) (t:Nat):Option (Nat×Nat) :=
 match P.underlying t with
 |some (.map k e)=>some (k,e)
 |_=>none
def zeroA (P:Program) (t:Nat):Option A1 :=
 match P.info? t with
 |some i=>match i.zero with
  |some (.agg cs)=>some (.agg (cs.toList.map .lit))
  |some v=>some (.one (.lit v))
  |none=>none
 |none=>none
def cfg:Option Unit->Bool
 |some _=>true
 |none=>false
def ckq (S:Stat D) (n0 t:Nat) (m:Option (Nat×Gx×Nat)) (i:Option Value) (ok:Bool):Option (Out D) :=
 match m,i,chx S.P t with
 |some (_,es,_),some k,some (kt,el)=>match cfg (ev S.P (Instr.checkKey (chc es) 10000 kt k)) with
  |true=>match caU S.P kt k es with
   |some (some j)=>match nthE es j with
    |some p=>match ok with
     |true=>out n0 (.tup [p.2.1,.one (.lit (.bool true))])
     |false=>out n0 (.val p.2.1)
    |none=>none
   |some none=>match zeroA S.P el with
    |some z=>match ok with
     |true=>out n0 (.tup [z,.one (.lit (.bool false))])
     |false=>out n0 (.val z)
    |none=>none
   |none=>none
  |false=>none
 |_,_,_=>none
def mPut (S:Stat D) (n0 t:Nat) (m:Option (Nat×Gx×Nat)) (i:Option Value) (y:Option AV):Option (Out D) :=
 match m,i,chx S.P t,y with
 |some (b,es,ck),some k,some (kt,_),some (.val x)=>match cfg (ev S.P (Instr.checkKey false 10000 kt k)) with
  |true=>match caU S.P kt k es with
   |some (some j)=>match nthE es j with
    |some p=>match Instr.sameBits 10000 p.1 k with
     |true=>some ⟨KU,[(b,.mp (setE (k,x,p.2.2) es j) ck)],n0,[]⟩
     |false=>none
    |none=>none
   |some none=>some ⟨KU,[(b,.mp (es++[(k,x,ck)]) (ck+1))],n0,[]⟩
   |none=>none
  |false=>none
 |_,_,_,_=>none
def mDel (S:Stat D) (n0 t:Nat) (m:Option (Nat×Gx×Nat)) (i:Option Value):Option (Out D) :=
 match m,i,chx S.P t with
 |some (b,es,ck),some k,some (kt,_)=>match cfg (ev S.P (Instr.checkKey (chc es) 10000 kt k)) with
  |true=>match caU S.P kt k es with
   |some (some j)=>some ⟨.tup [],[(b,.mp (delE es j) ck)],n0,[]⟩
   |some none=>out n0 (.tup [])
   |none=>none
  |false=>none
 |_,_,_=>none
def chR (V:jv):List Operand->Option (List Value)
 |[]=>some []
 |x::l=>match Kw? (cG V x),chR V l with
  |some v,some vs=>some (v::vs)
  |_,_=>none
theorem cik {e:Env}{a:Act}{V:jv}(hV:jD e a V):∀ {l:List Operand}{vs:List Value},chR V l=some vs->l.map a.eval=vs
 |[],vs,h=>by simp [chR] at h;subst h;rfl
 |x::l,vs,h=>by
  unfold chR at h;split at h
  ·rename_i v us h1 h2;injection h with h;subst h
   rw[jR,Gm hV h1,cik hV h2]
  ·cases h
def ceM (S:Stat D) (V:jv) (M:cR D) (n0:Nat) (o:Oper):Option (Out D) :=
 match o.op with
 |.makeMap _ none=>some ⟨.val (.one (.fn n0)),[(n0,.mp [] 0)],n0+1,[]⟩
 |.lookup t x i ok=>ckq S n0 t (cfh M (cG V x)) (Kw? (cG V i)) ok
 |.mapUpdate t x i y=>mPut S n0 t (cfh M (cG V x)) (Kw? (cG V i)) (cG V y)
 |.insert t x i y=>mPut S n0 t (cfh M (cG V x)) (Kw? (cG V i)) (cG V y)
 |.call c=>match c.callee with
  |.builtin .delete=>match c.args.toList,c.argTypes.toList with
   |[x,i],t::_=>mDel S n0 t (cfh M (cG V x)) (Kw? (cG V i))
   |_,_=>none
  |.builtin .min=>match chR V c.args.toList with
   |some vs=>uU S.P n0 (Builtin.min_ c.argTypes o.type vs.toArray)
   |none=>none
  |_=>none
 |_=>none
theorem clv {α β:Type}{P:Program}{f:α->Sem β}{r:β}:∀ {s:Sem α},ev P (s >>= f)=some r->∃ a,ev P s=some a/\ev P (f a)=some r:=by
 intro s
 induction s with
 |pure a=>intro h;exact⟨a,rfl,h⟩
 |program k ih=>intro h;exact ih P h
 |mark m k ih=>intro h;exact ih h
 |_=>intro h;cases h
section
variable {P:Program}{e:Env}
def Same (l:List MapEntry) (i0:Nat):Option (Nat×Value)->Option (Nat×Value)->Prop
 |none,r=>r=none
 |some p,r=>∃ j x,p.1=i0+j/\l[j]?=some x/\r=some (p.1,x.val)
theorem Same.next {x:MapEntry}{l:List MapEntry}{i0:Nat}{r r':Option (Nat×Value)}(h:Same l (i0+1) r r'):Same (x::l) i0 r r':=by
 cases r with
 |none=>exact h
 |some p =>
  obtain⟨j,y,h1,h2,h3⟩:=h;exact⟨j+1,y,by omega,by simpa using h2,h3⟩
theorem Zc {kind:TypeDesc}{k:Value}:∀ {es:Gx}{l:List MapEntry}(i0:Nat),ko e es l->
 (Instr.findNow kind k (uO es) i0=none/\Instr.findNow kind k l i0=none)\/∃ r r',Instr.findNow kind k (uO es) i0=some r/\Instr.findNow kind k l i0=some r'/\Same l i0 r r'
 |[],l,i0,h=>by
  rw[show l=[] from h];exact .inr ⟨none,none,rfl,rfl,rfl⟩
 |p::es,l,i0,⟨v,l',h1,h2,h3⟩=>by
  subst h1;have ih:=Zc (kind:=kind) (k:=k) (i0+1) h3;simp only[uO,jR,Instr.findNow];cases hs:Instr.sameNow kind k p.1 with
  |none=>exact .inl ⟨rfl,rfl⟩
  |some b =>
   cases b with
   |true=>exact .inr ⟨_,_,rfl,rfl,0,_,rfl,rfl,rfl⟩
   |false =>
    rcases ih with⟨q1,q2⟩|⟨r,r',q1,q2,q3⟩
    ·exact .inl ⟨q1,q2⟩
    ·exact .inr ⟨r,r',q1,q2,q3.next⟩
theorem Uf {kt:TypeId}{k:Value}:∀ {es:Gx}{l:List MapEntry}(i0:Nat) {r:Option (Nat×Value)},ko e es l->ev P (Instr.findAsking kt k (uO es) i0)=some r->
 ∃ r',(∀ w,(Instr.findAsking kt k l i0).run P w=.ok r' w)/\Same l i0 r r'
 |[],l,i0,r,h,hr=>by
  rw[show l=[] from h];injection hr with hr;subst hr
  exact⟨none,fun _=>rfl,rfl⟩
 |p::es,l,i0,r,⟨v,l',h1,h2,h3⟩,hr=>by
  subst h1;simp only[uO,jR,Instr.findAsking] at hr;obtain⟨b,q1,q2⟩:=clv hr;simp only[Instr.findAsking];have q3:∀ w,(Op.equal kt k p.1).run P w=.ok b w:=fun w=>KR q1 w;cases b with
  |true =>
   injection q2 with q2;subst q2
   exact⟨some (i0,v),fun w=>by simp [q3],0,_,rfl,rfl,rfl⟩
  |false =>
   obtain⟨r',q4,q5⟩:=Uf (i0+1) h3 q2;exact⟨r',fun w=>by simp [q3,q4],q5.next⟩
theorem Kx {kt:TypeId}{k:Value}{es:Gx}{l:List MapEntry}{r:Option (Nat×Value)}(h:ko e es l) (hr:ev P (Instr.findKey kt k (uO es))=some r) :
 ∃ r',(∀ w,(Instr.findKey kt k l).run P w=.ok r' w)/\Same l 0 r r':=by
 unfold Instr.findKey at hr ⊢;obtain⟨d,q1,q2⟩:=clv hr;have q3:∀ w,(underlying kt).run P w=.ok d w:=fun w=>KR q1 w;rcases Zc (kind:=d) (k:=k) 0 h with⟨p1,p2⟩|⟨r1,r2,p1,p2,p3⟩
 ·rw[p1] at q2;obtain⟨r',p3,p4⟩:=Uf 0 h q2;exact⟨r',fun w=>by simp [q3,p2,p3],p4⟩
 ·rw[p1] at q2;injection q2 with q2;subst q2
  exact⟨r2,fun w=>by simp [q3,p2],p3⟩
theorem YI {kt:TypeId}{k:Value}{es:Gx}{l:List MapEntry}(h:ko e es l) (hr:caU P kt k es=some none) (w:World):(Instr.findKey kt k l).run P w=.ok none w:=by
 unfold caU at hr;split at hr
 ·cases hr
 ·rename_i hv;obtain⟨r',q1,q2⟩:=Kx h hv;rw[q1,show r'=none from q2]
 ·cases hr
theorem ko.get:∀ {es:Gx}{l:List MapEntry}{j:Nat}{p:Value×A1×Nat},ko e es l->nthE es j=some p->∃ v,l[j]?=some ⟨p.1,v,p.2.2⟩/\p.2.1.is e v
 |[],l,j,p,h,hp=>by simp [nthE] at hp
 |q::es,l,0,p,⟨v,l',h1,h2,h3⟩,hp=>by
  injection hp with hp;subst hp;subst h1
  exact⟨v,rfl,h2⟩
 |q::es,l,j+1,p,⟨v,l',h1,h2,h3⟩,hp=>by
  subst h1;obtain⟨u,q1,q2⟩:=ko.get h3 hp;exact⟨u,by simpa using q1,q2⟩
theorem ccK {kt:TypeId}{k:Value}{es:Gx}{l:List MapEntry}{j:Nat}{p:Value×A1×Nat}(h:ko e es l) (hr:caU P kt k es=some (some j)) (hp:nthE es j=some p) :
 ∃ v,(∀ w,(Instr.findKey kt k l).run P w=.ok (some (j,v)) w)/\l[j]?=some ⟨p.1,v,p.2.2⟩/\p.2.1.is e v:=by
 unfold caU at hr;split at hr
 ·rename_i x hv;injection hr with hr;injection hr with hr;subst hr
  obtain⟨r',q1,j,y,q2,q3,q4⟩:=Kx h hv;obtain⟨v,q5,q6⟩:=h.get hp;have hj:x.1=j:=by omega
  rw[hj,q3] at q5;injection q5 with q5
  refine⟨v,fun w=>?_,?_,q6⟩
  ·rw[q1,q4,q5]
  ·rw[hj,q3,q5]
 ·cases hr
 ·cases hr
theorem ko.empty {es:Gx}{l:List MapEntry}(h:ko e es l):l.isEmpty=chc es:=by
 cases es with
 |nil=>rw[show l=[] from h];rfl
 |cons p es=>obtain⟨v,l',h1,_⟩:=h;rw[h1];rfl
theorem ko.snoc {k:Value}{x:A1}{b:Nat}{v:Value}(hx:x.is e v):∀ {es:Gx}{l:List MapEntry},ko e es l->ko e (es++[(k,x,b)]) (l++[⟨k,v,b⟩])
 |[],l,h=>by rw[show l=[] from h];exact⟨v,[],rfl,hx,rfl⟩
 |p::es,l,⟨u,l',h1,h2,h3⟩=>by subst h1;exact⟨u,_,rfl,h2,h3.snoc hx⟩
theorem ko.set {k:Value}{x:A1}{b:Nat}{v:Value}(hx:x.is e v):∀ {es:Gx}{l:List MapEntry}{j:Nat},ko e es l->ko e (setE (k,x,b) es j) (l.set j ⟨k,v,b⟩)
 |[],l,j,h=>by rw[show l=[] from h];rfl
 |p::es,l,0,⟨u,l',h1,h2,h3⟩=>by subst h1;exact⟨v,_,rfl,hx,h3⟩
 |p::es,l,j+1,⟨u,l',h1,h2,h3⟩=>by subst h1;exact⟨u,_,rfl,h2,h3.set hx⟩
theorem ko.del:∀ {es:Gx}{l:List MapEntry}{j:Nat},ko e es l->ko e (delE es j) (l.eraseIdx j)
 |[],l,j,h=>by rw[show l=[] from h];rfl
 |p::es,l,0,⟨u,l',h1,h2,h3⟩=>by subst h1;exact h3
 |p::es,l,j+1,⟨u,l',h1,h2,h3⟩=>by subst h1;exact⟨u,_,rfl,h2,h3.del⟩
theorem cbT {t k el:Nat}(h:chx P t=some (k,el)):P.underlying t=some (.map k el):=by
 unfold chx at h;split at h
 ·rename_i hm;injection h with h;simp only[cr] at h
  rw[hm,h.1,h.2]
 ·cases h
theorem cnZ {t:Nat}{z:A1}(h:zeroA P t=some z) (e:Env):∃ v,z.is e v/\∀ w,(zeroValue t).run P w=.ok v w:=by
 unfold zeroA at h;split at h
 ·rename_i i hi;split at h
  ·rename_i cs hz;injection h with h;subst h
   refine⟨.agg cs,⟨cs.toList,yZ e _,by simp⟩,fun w=>by simp [zeroValue,typeInfo,hi,hz]⟩
  ·rename_i v _ hz;injection h with h;subst h
   exact⟨v,rfl,fun w=>by simp [zeroValue,typeInfo,hi,hz]⟩
  ·cases h
 ·cases h
theorem caq {s:Sem Unit}(h:cfg (ev P s)=true) (w:World):s.run P w=.ok () w:=by
 cases hs:ev P s with
 |none=>rw[hs] at h;cases h
 |some u=>exact KR hs w
end
section
variable {F:Fence}{m:Nat}
variable {C:Ctx D}{e:Env}{a:Act}{w:World}{V:jv}{M:cR D}{T:Tab D}{n0:Nat}{K:Act->World->Prop}{Q:Exit->Act->World->Prop}{o:Oper}{t:Out D}
theorem cfv (hV:jD e a V) (hM:jm C e w M) {x:Operand}{b:Nat}{es:Gx}{ck:Nat}(h:cfh M (cG V x)=some (b,es,ck)) :
 ∃ k arr,e.ρ b=some k/\e.al b=true/\e.φ b=some (.map (some k))/\w.heap[k]?=some (.map arr ck)/\ko e es arr.toList/\a.eval x=.map (some k):=by
 unfold cfh at h;split at h
 ·rename_i b' hx;split at h
  ·rename_i es' ck' hb;injection h with h;simp only[cr] at h
   obtain⟨rfl,rfl,rfl⟩:=h;obtain⟨k,arr,h1,h2,h3,h4,h5⟩:=hM _ _ hb;have hv:e.φ b'=some (a.eval x):=cV hV hx;rw[h3] at hv;injection hv with hv
   exact⟨k,arr,h1,h2,h3,h4,h5,hv.symm⟩
  ·cases h
 ·cases h
theorem YJ {P:Program}{w:World}{k ck:Nat}{arr:Array MapEntry}(h:w.heap[k]?=some (.map arr ck)):(getObj k).run P w=.ok (.map arr ck) w:=by simp [getObj,Sem.run,h]
theorem Ks {P:Program}{w:World}{k ck:Nat}{arr:Array MapEntry}(o:Obj) (h:w.heap[k]?=some (.map arr ck)):(setObj k o).run P w=.ok () (w.putObj k o):=by simp [setObj,Sem.run,h,World.putObj]
theorem ccO (hg:jr C e w) {b k ck ck':Nat}{arr arr':Array MapEntry}(hb:e.ρ b=some k) (ha:e.al b=true) (hφ:e.φ b=some (.map (some k))) (hk:w.heap[k]?=some (.map arr ck)) {es':Gx}(he:ko e es' arr'.toList) :
 ut C e w n0 n0 [(b,.mp es' ck')] e (w.putObj k (.map arr' ck')):=by
 have hlt:k<w.heap.size:=(Array.getElem?_eq_some_iff.1 hk).1;have hk':(w.putObj k (.map arr' ck')).heap[k]?=some (.map arr' ck'):=by simp [World.putObj,hlt]
 exact Kh (w':=w.putObj k (.map arr' ck')) (ob:=.mp es' ck') hg hb ha ⟨rfl,rfl,rfl,by simp [World.putObj],fun j hj=>Jg hj⟩ hk' (.inr (.inr (.inr ⟨_,_,rfl⟩))) ⟨k,arr',hb,ha,hφ,hk',he⟩
theorem cof (hV:jD e a V) (hM:jm C e w M) (hg:jr C e w) {ty:Nat}{x i:Operand}{ok:Bool}(hu:ckq C.toStat n0 ty (cfh M (cG V x)) (Kw? (cG V i)) ok=some t) :
 ∃ v,(Instr.lookup ty (a.eval x) (a.eval i) ok).run C.P w=.ok v w/\uk C e w n0 t v w:=by
 unfold ckq at hu;split at hu
 rotate_left
 ·cases hu
 rename_i b es ck k kt el hx hi hm;have hm:=cbT hm;obtain⟨q,arr,h1,h2,h3,h4,h5,h6⟩:=cfv hV hM hx;rw[h6,Gm hV hi];split at hu
 rotate_left
 ·cases hu
 rename_i hck;have hck:(Instr.checkKey arr.isEmpty 10000 kt k).run C.P w=.ok () w:=by
  rw[show arr.isEmpty=chc es by rw[← h5.empty];simp];exact caq hck w
 have hget:=YJ (P:=C.P) h4;split at hu
 ·rename_i j hj;split at hu
  rotate_left
  ·cases hu
  rename_i p hp;obtain⟨v,q1,q2,q3⟩:=ccK h5 hj hp;have q1:=q1 w;cases ok with
  |true =>
   injection hu with hu;subst hu
   refine⟨.tuple #[v,.bool true],?_,uk.here hg ⟨[v,.bool true],⟨v,_,rfl,q3,_,_,rfl,rfl,rfl⟩,rfl⟩⟩;unfold Instr.lookup;generalize 10000=N at hck ⊢;simp [ud hm,hget,hck,q1]
  |false =>
   injection hu with hu;subst hu
   refine⟨v,?_,uk.here hg q3⟩;unfold Instr.lookup;generalize 10000=N at hck ⊢;simp [ud hm,hget,hck,q1]
 ·rename_i hj;have q1:=YI h5 hj w;split at hu
  rotate_left
  ·cases hu
  rename_i z hz;obtain⟨v,q2,q3⟩:=cnZ hz e;have q3:=q3 w;cases ok with
  |true =>
   injection hu with hu;subst hu
   refine⟨.tuple #[v,.bool false],?_,uk.here hg ⟨[v,.bool false],⟨v,_,rfl,q2,_,_,rfl,rfl,rfl⟩,rfl⟩⟩;unfold Instr.lookup;generalize 10000=N at hck ⊢;simp [ud hm,hget,hck,q1,q3]
  |false =>
   injection hu with hu;subst hu
   refine⟨v,?_,uk.here hg q2⟩;unfold Instr.lookup;generalize 10000=N at hck ⊢;simp [ud hm,hget,hck,q1,q3]
 ·cases hu
theorem ciS {l:Array MapEntry}{j:Nat}{x:MapEntry}{f:MapEntry->MapEntry}(h:l[j]?=some x):(l.modify j f).toList=l.toList.set j (f x):=by
 apply Yq;intro i;simp only[ciY,cbW,List.getElem?_set];by_cases hij:j=i
 ·subst hij;obtain⟨hl,hx⟩:=Array.getElem?_eq_some_iff.1 h;simp [hl,hx]
 ·simp [hij]
theorem ckK (hV:jD e a V) (hM:jm C e w M) (hg:jr C e w) {ty:Nat}{x i y:Operand}(hu:mPut C.toStat n0 ty (cfh M (cG V x)) (Kw? (cG V i)) (cG V y)=some t) :
 ∃ w',(Instr.mapUpdate ty (a.eval x) (a.eval i) (a.eval y)).run C.P w=.ok () w'/\uk C e w n0 t undef w':=by
 unfold mPut at hu;split at hu
 rotate_left
 ·cases hu
 rename_i b es ck k kt el xv hx hi hm hy;have hm:=cbT hm;obtain⟨q,arr,h1,h2,h3,h4,h5,h6⟩:=cfv hV hM hx;have hxv:xv.is e (a.eval y):=cV hV hy;rw[h6,Gm hV hi];split at hu
 rotate_left
 ·cases hu
 rename_i hck;have hck:(Instr.checkKey false 10000 kt k).run C.P w=.ok () w:=caq hck w;have hget:=YJ (P:=C.P) h4;split at hu
 ·rename_i j hj;split at hu
  rotate_left
  ·cases hu
  rename_i p hp;obtain⟨v,q1,q2,q3⟩:=ccK h5 hj hp;have q1:=q1 w;have q2:arr[j]?=some ⟨p.1,v,p.2.2⟩:=by simpa using q2
  split at hu
  rotate_left
  ·cases hu
  rename_i hsb;injection hu with hu;subst hu
  have hE:ko e (setE (k,xv,p.2.2) es j) (arr.modify j fun en=>{ en with key:=k,val:=a.eval y }).toList:=by
   rw[ciS q2];exact h5.set hxv
  refine⟨w.putObj q (.map (arr.modify j fun en=>{ en with key:=k,val:=a.eval y }) ck),?_,e,ccO hg h1 h2 h3 h4 hE,rfl⟩;have hst:(Instr.keyThatStays p.1 k).run C.P w=.ok k w:=by
   unfold Instr.keyThatStays;generalize 10000=N at hsb ⊢;simp [hsb]
  unfold Instr.mapUpdate;have hset:=Ks (P:=C.P) (.map (arr.modify j fun en=>{ en with key:=k,val:=a.eval y }) ck) h4;generalize 10000=N at hck ⊢;simp [ud hm,hget,hck,q1,q2,hst,hset]
 ·rename_i hj;have q1:=YI h5 hj w;injection hu with hu;subst hu
  have hE:ko e (es++[(k,xv,ck)]) (arr.push { key:=k,val:=a.eval y,born:=ck }).toList:=by
   rw[Array.toList_push];exact h5.snoc hxv
  refine⟨w.putObj q (.map (arr.push { key:=k,val:=a.eval y,born:=ck }) (ck+1)),?_,e,ccO hg h1 h2 h3 h4 hE,rfl⟩;unfold Instr.mapUpdate;have hset:=Ks (P:=C.P) (.map (arr.push { key:=k,val:=a.eval y,born:=ck }) (ck+1)) h4;generalize 10000=N at hck ⊢;simp [ud hm,hget,hck,q1,hset]
 ·cases hu
theorem chN {k:Nat}{o:Obj}(h:w.heap[k]?=some o):w.putObj k o=w:=by
 unfold World.putObj;have:w.heap.setIfInBounds k o=w.heap:=by
  apply Array.ext_getElem?;intro i;rw[ccu];split
  ·rename_i hk;subst hk;split
   ·exact h.symm
   ·rename_i hn;rw[Zp (by omega)]
  ·rfl
 rw[this]
theorem mDel_is (hV:jD e a V) (hM:jm C e w M) (hg:jr C e w) {ty rt:Nat}{x i:Operand}{ats:Array TypeId}(hty:ats[0]?=some ty) (hu:mDel C.toStat n0 ty (cfh M (cG V x)) (Kw? (cG V i))=some t) :
 ∃ w',(Builtin.delete_ ats rt #[a.eval x,a.eval i]).run C.P w=.ok (.tuple #[]) w'/\uk C e w n0 t (.tuple #[]) w':=by
 unfold mDel at hu;split at hu
 rotate_left
 ·cases hu
 rename_i b es ck k kt el hx hi hm;have hm:=cbT hm;obtain⟨q,arr,h1,h2,h3,h4,h5,h6⟩:=cfv hV hM hx;rw[h6,Gm hV hi];split at hu
 rotate_left
 ·cases hu
 rename_i hck;have hck:(Instr.checkKey arr.isEmpty 10000 kt k).run C.P w=.ok () w:=by
  rw[show arr.isEmpty=chc es by rw[← h5.empty];simp];exact caq hck w
 have hget:=YJ (P:=C.P) h4;unfold Builtin.delete_;split at hu
 ·rename_i j hj;injection hu with hu;subst hu
  have hv:∃ v,∀ w,(Instr.findKey kt k arr.toList).run C.P w=.ok (some (j,v)) w:=by
   unfold caU at hj;split at hj
   ·rename_i p hv;injection hj with hj;injection hj with hj;subst hj
    obtain⟨r',q1,_,y,_,_,q4⟩:=Kx h5 hv;exact⟨y.val,fun w=>by rw[q1,q4]⟩
   ·cases hj
   ·cases hj
  obtain⟨v,q1⟩:=hv;have q1:=q1 w;have hE:ko e (delE es j) (arr.eraseIdxIfInBounds j).toList:=by
   have:(arr.eraseIdxIfInBounds j).toList=arr.toList.eraseIdx j:=by simp
   rw[this];exact h5.del
  refine⟨w.putObj q (.map (arr.eraseIdxIfInBounds j) ck),?_,e,ccO hg h1 h2 h3 h4 hE,[],rfl,rfl⟩;have hset:=Ks (P:=C.P) (.map (arr.eraseIdxIfInBounds j) ck) h4;generalize 10000=N at hck ⊢;simp [hty,ud hm,hget,hck,q1,hset]
 ·rename_i hj;have q1:=YI h5 hj w;injection hu with hu;subst hu
  refine⟨w,?_,uk.here hg ⟨[],rfl,rfl⟩⟩;have hset:=Ks (P:=C.P) (.map arr ck) h4;rw[chN h4] at hset;generalize 10000=N at hck ⊢;simp [hty,ud hm,hget,hck,q1,hset]
 ·cases hu
theorem cpp (hW:Wd F) (hV:jD e a V) (hM:jm C e w M) (hg:jr C e w) (hu:ceM C.toStat V M n0 o=some t) (hf:um n0 t.n1 e)
 (hK:∀ v w',uk C e w n0 t v w'->K (a.put o.dst v) w'):o.wpIn F m C.P a w K Q:=by
 have hnd:Gn o:=by
  intro c hc;unfold ceM at hu;rw[hc] at hu;cases hu
 unfold ceM at hu;split at hu
 ·rename_i ty hop;injection hu with hu;subst hu
  have hk:(w.alloc (.map #[] 0)).heap[w.heap.size]?=some (.map #[] 0):=by
   show (w.heap.push _)[w.heap.size]?=_;simp
  obtain⟨e',q1,q2⟩:=KI (v:=.map (some w.heap.size)) (ob:=.mp [] 0) hg hf ((cw _ w).alloc (cb _) (.map #[] 0)) (cb _) hk (.inr (.inr (.inr ⟨_,_,rfl⟩))) (fun e' hadv p1 p2 p3=>⟨w.heap.size,#[],p1,p2,p3,hk,rfl⟩);exact cJ hW hnd (v:=.map (some w.heap.size)) (w':=w.alloc (.map #[] 0)) (by simp [execOp,hop,Instr.makeMap]) (hK _ _ ⟨e',q1,q2⟩)
 ·rename_i ty x i ok hop;obtain⟨v,h1,h2⟩:=cof hV hM hg hu;exact cJ hW hnd (v:=v) (w':=w) (by simp only[execOp,hop,jc,h1];rfl) (hK _ _ h2)
 ·rename_i ty x i y hop;obtain⟨w',h1,h2⟩:=ckK hV hM hg hu;have:(execOp a.eval o).run C.P w=.ok .skip w':=by simp only[execOp,hop,jc,h1];rfl
  refine⟨fun f _=>hW.fn f,?_⟩;rw[Yu _ _ _ hnd,this];exact hK _ _ h2
 ·rename_i ty x i y hop;obtain⟨w',h1,h2⟩:=ckK hV hM hg hu;have:(execOp a.eval o).run C.P w=.ok .skip w':=by simp only[execOp,hop,jc,h1];rfl
  refine⟨fun f _=>hW.fn f,?_⟩;rw[Yu _ _ _ hnd,this];exact hK _ _ h2
 ·rename_i c hop;split at hu
  rotate_left
  ·rename_i hcal;split at hu
   rotate_left
   ·cases hu
   rename_i vs hvs;have ha:c.args.map a.eval=vs.toArray:=by
    apply CO;rw[YK,cik hV hvs]
   refine GY hW hnd hg hu (fun v w' h=>?_) hK;simp [execOp,hop,resolve,hcal,ha,invoke,builtin,h]
  ·cases hu
  rename_i hcal;split at hu
  rotate_left
  ·cases hu
  rename_i x i ty ats hargs hats;have ha:c.args.map a.eval=#[a.eval x,a.eval i]:=by
   apply CO;simp [hargs]
  have hty:c.argTypes[0]?=some ty:=by rw[← ciY,hats];rfl
  obtain⟨w',h1,h2⟩:=mDel_is (rt:=o.type) hV hM hg hty hu;exact cJ hW hnd (v:=.tuple #[]) (w':=w') (by simp [execOp,hop,resolve,hcal,ha,invoke,builtin,h1]) (hK _ _ h2)
 ·cases hu
end
section
variable {S:Stat D}{V:jv}{M:cR D}{n0:Nat}{o:Oper}{t:Out D}
theorem coz (hu:ceM S V M n0 o=some t):n0<=t.n1:=by
 unfold ceM at hu
 repeat' (split at hu<;>try (cases hu;done))
 ·injection hu with hu;subst hu;exact yg _
 ·unfold ckq at hu
  repeat' (split at hu<;>try (cases hu;done))
  all_goals (injection hu with hu;subst hu;exact cb _)
 ·unfold mPut at hu
  repeat' (split at hu<;>try (cases hu;done))
  all_goals (injection hu with hu;subst hu;exact cb _)
 ·unfold mPut at hu
  repeat' (split at hu<;>try (cases hu;done))
  all_goals (injection hu with hu;subst hu;exact cb _)
 ·unfold mDel at hu
  repeat' (split at hu<;>try (cases hu;done))
  all_goals (injection hu with hu;subst hu;exact cb _)
 ·unfold uU at hu;split at hu
  ·injection hu with hu;subst hu;exact cb _
  ·cases hu
end
variable {D:Type}
def chJ (S:Stat D) (T:Tab D) (CF YF:cN D) (V:jv) (M:cR D) (n0:Nat) (o:Oper):Option (Out D) :=
 match ceM S V M n0 o with
 |some r=>some r
 |none=>match cfe S T V M n0 o with
  |some r=>some r
  |none=>Ge S T CF YF V M n0 o
section
variable {F:Fence}{m:Nat}{YF:cN D}
variable {C:Ctx D}{e:Env}{a:Act}{w:World}{V:jv}{M:cR D}{T:Tab D}{CF:cN D}{n0:Nat}{K:Act->World->Prop}{Q:Exit->Act->World->Prop}{o:Oper}{t:Out D}
theorem xIx_is (hC:C.Ok) (hV:jD e a V) (hM:jm C e w M) (hg:jr C e w) {ty:Nat}{x:Operand}{s:Src D}{j:Nat}(hs:cdM C.toStat M (cG V x)=some s) (hu:xIx C.toStat n0 ty s j=some t) (hf:um n0 t.n1 e) (ho:jE t.ob) :
 ∃ v,(Instr.indexAt ty (a.eval x) (.int .i64 (.ofNat j))).run C.P w=.ok v w/\uk C e w n0 t v w:=by
 unfold xIx at hu;split at hu
 rotate_left
 ·cases hu
 rename_i el inf he;obtain⟨hel,hi⟩:=yI he;split at hu
 rotate_left
 ·cases hu
 rename_i hz;have hz:=ct hz;injection hu with hu;subst hu
 have hj:j<s.L.n:=ho.1;obtain⟨h1,h2⟩:=YZ hC hV hM hg hs;rcases h1 with⟨h1,_⟩|⟨k,o,c,arr,pre,vs,rest,h3,_⟩
 ·omega
 have h0:(0:Int)<=Int.ofNat j/\Int.ofNat j<s.L.n:=⟨ccS j,Int.ofNat_lt.2 hj⟩;refine⟨.pointer (some ⟨k,o+j*s.L.z,none⟩),?_,?_⟩
 ·simp only[h3,Instr.indexAt,asIntOf,underlying,jc,zk,cae,jC,hel,co h0,jZ hi,jL,hz];rfl
 ·cases hown:s.own with
  |true =>
   rw[hown] at h2;obtain⟨h4,h5⟩:=h2;obtain⟨v,q1,q2⟩:=hM _ _ h5;rw[h4] at q1;injection q1 with q1;subst q1
   rcases q2 with⟨q2,_⟩|⟨k',c',arr',vs',rest',q3,_,q5,_⟩
   ·omega
   rw[h3] at q5;injection q5 with q5;injection q5 with q5;injection q5 with q5 q6
   subst q5;subst q6;obtain⟨e',p1,p2⟩:=GL (v:=.pointer (some ⟨k,0+j*s.L.z,none⟩)) (ob:=.ep s.id j s.L.z 0) hg hf (fun e' hx p=>⟨k,hx.ρ _ _ q3,by rw[p,je,kh]⟩);exact⟨e',p1,p2⟩
  |false =>
   rw[hown] at h2;obtain⟨h4,_⟩:=h2;rw[h3] at h4;obtain⟨e',p1,p2⟩:=GL (v:=.pointer (some ⟨k,o+j*s.L.z,none⟩)) (ob:=.cp s.id j s.L.z 0) hg hf (fun e' hx p=>⟨k,o,_,c,hx.ν _ _ h4,by rw[p,kh]⟩);exact⟨e',p1,p2⟩
theorem xFa_is (hV:jD e a V) (hM:jm C e w M) (hg:jr C e w) {s f:Nat}{x:Operand}(hu:xFa C.toStat M n0 s f (cG V x)=some t) (hf:um n0 t.n1 e) :
 ∃ v,(Instr.fieldAt s (a.eval x) f).run C.P w=.ok v w/\uk C e w n0 t v w:=by
 unfold xFa at hu;split at hu
 rotate_left
 ·cases hu
 rename_i b hx;have hv:e.φ b=some (a.eval x):=cV hV hx;split at hu
 rotate_left
 ·cases hu
 rename_i fl hfl;obtain⟨fs,g1,g2⟩:=CI hfl;split at hu
 rotate_left
 ·cases hu
 rename_i inf hinf;split at hu
 ·cases hu
 rename_i n hsz;split at hu
 ·rename_i l i z o hb;injection hu with hu;subst hu
  obtain⟨k,h1,h2⟩:=hM _ _ hb;rw[hv] at h2;injection h2 with h2
  obtain⟨e',p1,p2⟩:=GL (v:=.pointer (some ⟨k,i*z+o+fl.offset,none⟩)) (ob:=.ep l i z (o+fl.offset)) hg hf (fun e' hx p=>⟨k,hx.ρ _ _ h1,by rw[p,zO]⟩);refine⟨_,?_,e',p1,p2⟩;simp [h2,Instr.fieldAt,underlying,g1,g2,Instr.sureAddr,fieldPlace,jZ hinf,hsz,jL]
 ·rename_i l i z o hb;injection hu with hu;subst hu
  obtain⟨k,p,n',c,h1,h2⟩:=hM _ _ hb;rw[hv] at h2;injection h2 with h2
  obtain⟨e',p1,p2⟩:=GL (v:=.pointer (some ⟨k,p+(i*z+o)+fl.offset,none⟩)) (ob:=.cp l i z (o+fl.offset)) hg hf (fun e' hx q=>⟨k,p,n',c,hx.ν _ _ h1,by rw[q,zO,zO]⟩);refine⟨_,?_,e',p1,p2⟩;simp [h2,Instr.fieldAt,underlying,g1,g2,Instr.sureAddr,fieldPlace,jZ hinf,hsz,jL]
 ·cases hu
theorem coa {α:Type}(vs:List α) {l h z j:Nat}(hj:j<h-l):((((vs.drop (l*z)).take ((h-l)*z)).drop (j*z)).take z)=(vs.drop ((l+j)*z)).take z:=by
 apply Yq;intro q;have h1:(j+1)*z<=(h-l)*z:=ja z (by omega);rw[cT,kB] at h1;have h2:(l+j)*z=l*z+j*z:=cT l j z;rw[yF,yF];split
 ·rename_i hq;rw[zz,yF,co (by omega),zz,zz,h2];congr 1;omega
 ·rfl
theorem ckN {L:Lt D}{w:World}{l h k o c n:Nat}(h1:cfP C w L (.slice (some ⟨k,o,none⟩) n c)) (hl:l<h) (hh:h<=L.n):cfP C w ⟨L.lo,L.ty,L.z,h-l,fun j=>L.g (l+j)⟩ (.slice (some ⟨k,o+l*L.z,none⟩) (h-l) (c-l)):=by
 rcases h1 with⟨q1,_⟩|⟨k',o',c',arr,pre,vs,rest,q1,q2,q3,q4,q5,q6,q7,q8,q9⟩
 ·omega
 injection q1 with q1 q1' q1''
 injection q1 with q1
 injection q1 with q1 qo
 subst q1;subst qo;subst q1'';have hz:L.n*L.z=l*L.z+((h-l)*L.z+(L.n-h)*L.z):=by
  rw[← cT,← cT];congr 1;omega
 have hvs:vs=vs.take (l*L.z)++((vs.drop (l*L.z)).take ((h-l)*L.z)++(vs.drop (l*L.z)).drop ((h-l)*L.z)):=by
  rw[kv,kv]
 refine .inr ⟨k,o+l*L.z,c-l,arr,pre++vs.take (l*L.z),(vs.drop (l*L.z)).take ((h-l)*L.z),(vs.drop (l*L.z)).drop ((h-l)*L.z)++rest,rfl,?_,q3,?_,?_,?_,q7,?_,?_⟩
 ·show h-l<=c-l;omega
 ·rw[q4]
  conv=>lhs;rw[hvs]
  simp only[uM]
 ·rw[kI,q5,jp];omega
 ·show _=(h-l)*L.z;rw[jp,uK];omega
 ·exact fun v hv=>q8 v (cbs (Wo hv))
 ·intro j hj;have hj:j<h-l:=hj;show cO C w (L.g (l+j)) _;rw[coa vs hj];exact q9 (l+j) (by omega)
theorem xSl_is (hC:C.Ok) (hV:jD e a V) (hM:jm C e w M) (hg:jr C e w) {ty:Nat}{x:Operand}{lo hi:Option Operand}(hu:xSl C.toStat n0 ty (cdM C.toStat M (cG V x)) (Ep V lo) (Ep V hi)=some t) (hf:um n0 t.n1 e) (ho:jE t.ob) :
 ∃ v,(Instr.sliceAt ty (a.eval x) (lo.map a.eval) (hi.map a.eval) none).run C.P w=.ok v w/\uk C e w n0 t v w:=by
 cases hs:cdM C.toStat M (cG V x) with
 |none=>rw[hs] at hu;simp [xSl] at hu
 |some s =>
 cases hlo:Ep V lo with
 |none=>rw[hs,hlo] at hu;simp [xSl] at hu
 |some l =>
 cases hhi:Ep V hi with
 |none=>rw[hs,hlo,hhi] at hu;simp [xSl] at hu
 |some h =>
 rw[hs,hlo,hhi] at hu;unfold xSl at hu;simp only at hu;obtain⟨hr,h2⟩:=YZ hC hV hM hg hs;split at hu
 rotate_left
 ·cases hu
 rename_i el inf hown he;obtain⟨hel,hinf⟩:=yI he;rw[hown] at h2;obtain⟨hν,d,hd,hL⟩:=h2;split at hu
 rotate_left
 ·cases hu
 rename_i hz;have hz:=ct hz;injection hu with hu;subst hu
 obtain⟨h3,h4,_⟩:=ho;rcases hr with⟨h5,_⟩|⟨k,o,c,arr,pre,vs,rest,h5,h6,_⟩
 ·omega
 obtain⟨f,q1,q2⟩:=hM _ _ hd;rw[hν] at q1;injection q1 with q1;subst q1
 have hrob:JE C e w [.cls (C.mkL ⟨s.L.lo,s.L.ty,s.L.z,h.getD s.L.n-l.getD 0,fun j=>s.L.g (l.getD 0+j)⟩)] [.slice (some ⟨k,o+l.getD 0*s.L.z,none⟩) (h.getD s.L.n-l.getD 0) (c-l.getD 0)]:=by
  intro w' hk;obtain⟨v,q3,q4⟩:=hC.unlist _ _ _ _ hL (q2 w' hk);injection q3 with q3;subst q3
  rw[h5] at q4;exact Uu hC (hC.lists _ _ _ (ckN q4 h3 h4))
 have hsz:=hC.len _ _ _ (hC.lists _ _ _ (ckN (by
  obtain⟨v,q3,q4⟩:=hC.unlist _ _ _ _ hL (q2 w (uH.refl e w));injection q3 with q3;subst q3
  rw[h5] at q4;exact q4) h3 h4))
 have hsz:C.csz (C.mkL ⟨s.L.lo,s.L.ty,s.L.z,h.getD s.L.n-l.getD 0,fun j=>s.L.g (l.getD 0+j)⟩)=1:=hsz.symm;obtain⟨e',p1,v,ws,p2,p3,p4⟩:=WP (cs:=[.sym n0 0]) (ws:=[(n0,.cls (C.mkL ⟨s.L.lo,s.L.ty,s.L.z,h.getD s.L.n-l.getD 0,fun j=>s.L.g (l.getD 0+j)⟩))]) (n1:=n0+1) hC hg (by simp only[uV,hsz,Ci,ug]) hf hrob;injection p2 with p2 _
 subst p2;refine⟨_,?_,e',p1,p3⟩;have hb:=Kj (C:=C) (w:=w) (n:=s.L.n) (c:=c) (mx:=none) (mx':=none) hV hlo hhi rfl (fun k h=>by cases h) (Cs h3) (by simp only[Option.getD_none];omega) (by simp);simp only[Option.getD_none,KV] at hb;have hne:¬ c=l.getD 0:=by omega
 simp [Instr.sliceAt,Instr.slice,h5,ud hel,hb,jZ hinf,hne,jL,hz]
theorem chO (hC:C.Ok) (hM:jm C e w M):∀ {cs:List AC}{vs:List Value},CQ (ky M) cs=true->cZ e cs vs->∀ v∈vs,v.oneCell'=true
 |[],vs,_,h,v,hv=>by rw[show vs=[] from h] at hv;simp at hv
 |c::cs,_,h,⟨u,us,rfl,h1,h2⟩,v,hv=>by
  unfold CQ at h;split at h
  ·rename_i hc;rcases List.mem_cons.1 hv with rfl|hv
   ·exact zP hC hM hc h1
   ·exact chO hC hM h h2 v hv
  ·cases h
theorem ut.same {n1:Nat}{ws ws':Ws D}{e':Env}{w':World}(h:ut C e w n0 n1 ws e' w') (hs:∀ b,find b ws'=find b ws):ut C e w n0 n1 ws' e' w' :=
 ⟨h.le,h.adv,h.new,h.good,fun b o ho=>h.wrote b o (by rw[← hs];exact ho),fun b o ho hn=>h.kept b o ho (by rw[← hs];exact hn)⟩
theorem xBox_is (hC : C.Ok) (hV : jD e a V) (hM : jm C e w M) (hg : jr C e w) {ty : Nat} {x : Operand} (hu : xBox C.toStat M n0 ty (cG V x) = some t) (hf : um n0 t.n1 e) :
    uk C e w n0 t (.pointer (some ⟨w.heap.size, 0, none⟩)) { w with heap := w.heap.push (.cells (a.eval x).cells ty) } := by
  unfold xBox at hu
  split at hu
  rotate_left
  · cases hu
  rename_i y hy
  split at hu
  rotate_left
  · cases hu
  rename_i gs hs hgs hpos
  injection hu with hu; subst hu
  have hx : y.is e (a.eval x) := cV hV hy
  have hcs := A1.cells_are hC hM hx hs
  have hone := chO hC hM hs hcs
  have hlen := hcs.length
  have hb := EE w (.cells (a.eval x).cells ty)
  have hk : (w.heap.push (.cells (a.eval x).cells ty))[w.heap.size]? = some (.cells (a.eval x).cells ty) := by simp
  have hrob := (KE hC hM hgs hcs).adv (Adv.below hg hb)
  generalize hw : ({ w with heap := w.heap.push (.cells (a.eval x).cells ty) } : World) = w' at hb hrob ⊢
  have hk : w'.heap[w.heap.size]? = some (.cells (a.eval x).cells ty) := by rw [← hw]; exact hk
  have hlt : w.heap.size < w'.heap.size := (Array.getElem?_eq_some_iff.1 hk).1
  have hL : ∀ w'', uH e w' w'' → cfP C w'' ⟨C.lo, ty, y.cells.length, 1, fun _ => gs⟩ (.slice (some ⟨w.heap.size, 0, none⟩) 1 1) := by
    intro w'' hkp
    refine .inr ⟨w.heap.size, 0, 1, (a.eval x).cells, [], (a.eval x).cells.toList, [], rfl, cb _, ⟨(0, 0), ?_⟩, by simp, rfl, ?_, cA hC.los hg.below.size, hone, fun j hj => ?_⟩
    · rw [hkp.block _ hlt (fun b hb' => by have := hg.lt hb'; omega)]
      exact hk
    · show _ = 1 * y.cells.length
      rw [hlen, kB]
    · obtain rfl : j = 0 := Nat.lt_one_iff.1 hj
      have := hrob w'' hkp
      rw [Jr, ux, kA (show _ ≤ y.cells.length by omega)]
      exact this
  have hsz : C.csz (C.mkL ⟨C.lo, ty, y.cells.length, 1, fun _ => gs⟩) = 1 := (hC.len _ _ _ (hC.lists _ _ _ (hL w' (uH.refl _ _)))).symm
  have l1 := ut.below (n0 := n0) hg hb
  obtain ⟨e1, l2, u, us, p2, p3, p4⟩ := WP (cs := [.sym n0 0]) (ws := [(n0, .cls (C.mkL ⟨C.lo, ty, y.cells.length, 1, fun _ => gs⟩))]) (n1 := n0 + 1) (gs := [.cls (C.mkL ⟨C.lo, ty, y.cells.length, 1, fun _ => gs⟩)]) (vs := [.slice (some ⟨w.heap.size, 0, none⟩) 1 1]) hC l1.good (by simp only [uV, hsz, Ci, ug]) (fun b h1 h2 => hf b h1 (Nat.lt_succ_of_lt h2)) (fun w'' hkp => Uu hC (hC.lists _ _ _ (hL w'' hkp)))
  injection p2 with p2 _
  subst p2
  obtain ⟨l, q1, q2, _⟩ := p3
  have hν : e1.ν n0 = some [.slice (some ⟨w.heap.size, 0, none⟩) 1 1] := by
    obtain ⟨f, r1, r2⟩ := l2.wrote n0 (.cls (C.mkL ⟨C.lo, ty, y.cells.length, 1, fun _ => gs⟩)) (by simp [cX])
    rw [q1] at r1; injection r1 with r1; subst r1
    obtain ⟨v, r3, _⟩ : ∃ v, l = [v] ∧ True := by
      have := hC.len _ _ _ r2.out
      rw [hsz] at this
      match l, this with
      | [v], _ => exact ⟨v, rfl, trivial⟩
    subst r3
    rw [q1]
    have q2 : [v][0]? = some _ := q2
    injection q2 with q2
    rw [q2]
  have hf2 : um (n0 + 1) (n0 + 1 + 1) e1 := fun b h1 h2 => by
    obtain ⟨f1, f2, f3⟩ := hf b (by omega) h2
    refine ⟨?_, ?_, ?_⟩
    · cases hb : e1.ρ b with
      | none => rfl
      | some z => rcases l2.new.ρ b z hb with h | h
                  · rw [f1] at h; cases h
                  · omega
    · cases hb : e1.ν b with
      | none => rfl
      | some z => rcases l2.new.ν b z hb with h | h
                  · rw [f2] at h; cases h
                  · omega
    · cases hb : e1.φ b with
      | none => rfl
      | some z => rcases l2.new.φ b z hb with h | h
                  · rw [f3] at h; cases h
                  · omega
  obtain ⟨e2, l3, hφ⟩ := GL (v := .pointer (some ⟨w.heap.size, 0, none⟩)) (ob := .cp n0 0 y.cells.length 0) l2.good hf2 (fun e' hx p => ⟨w.heap.size, 0, 1, 1, hx.ν _ _ hν, by rw [p]; simp⟩)
  refine ⟨e2, ((l1.trans l2).trans l3).same (fun b => ?_), hφ⟩
  simp only [Ew, cX, jl]
  cases Nat.beq (n0 + 1) b <;> cases Nat.beq n0 b <;> rfl
theorem epOb {n1 ty:Nat}{p:Epo D}(hu:cey C.toStat n1 ty p=some t) (ho:jE t.ob):p.i<p.L.n:=by
 unfold cey at hu
 repeat' (split at hu<;>try (cases hu;done))
 all_goals (injection hu with hu;subst hu;exact ho.1)
theorem epOb' {n1 ty:Nat}{p:Epo D}{cs:List AC}(hu:cag C.toStat M n1 ty p cs=some t) (ho:jE t.ob):p.i<p.L.n:=by
 unfold cag at hu
 repeat' (split at hu<;>try (cases hu;done))
 all_goals (injection hu with hu;subst hu;exact ho.1)
theorem caV (hV:jD e a V):∀ {l:List (Nat×Operand)}{vs:List (Nat×Value)},Uw V l=some vs->l.map (fun p=>(p.1,a.eval p.2))=vs
 |[],vs,h=>by simp [Uw] at h;subst h;rfl
 |p::l,vs,h=>by
  unfold Uw at h;split at h
  ·rename_i v hv;split at h
   ·rename_i us hus;injection h with h;subst h
    rw[jR,caV hV hus,Gm hV hv]
   ·cases h
  ·cases h
theorem cpi (hW:Wd F) (hC:C.Ok) (hV:jD e a V) (hM:jm C e w M) (hg:jr C e w) (hu:cfe C.toStat T V M n0 o=some t) (hf:um n0 t.n1 e) (ho:jE t.ob)
 (hK:∀ v w',uk C e w n0 t v w'->K (a.put o.dst v) w'):o.wpIn F m C.P a w K Q:=by
 have hnd:Gn o:=by
  intro c hc;unfold cfe at hu;rw[hc] at hu;cases hu
 unfold cfe at hu;split at hu
 ·rename_i ty x hop;split at hu
  rotate_left
  ·cases hu
  rename_i p hp;have hi:=epOb hu ho;obtain⟨k,o',arr,pre,vs,rest,h1,h2,h3,h4,h5,h6,_,_⟩:=clC hC hV hM hg hp hi;obtain⟨v,h7,h8⟩:=cnS hC hg hu hf h2 h3 h4 (h6 _ hi);exact cJ hW hnd (by simp [execOp,hop,h1,Instr.loadAt,Instr.sureAddr,h7]) (hK _ _ h8)
 ·rename_i ty x y hop;split at hu
  rotate_left
  ·cases hu
  rename_i p hp;split at hu
  rotate_left
  ·cases hu
  rename_i z hz;have hi:=epOb' hu ho;obtain⟨k,o',arr,pre,vs,rest,h1,h2,h3,h4,h5,h6,h7,h8⟩:=clC hC hV hM hg hp hi;obtain⟨w',h9,h10⟩:=cmc hC hM hg (cV hV hz) hu hi h2 h3 h5 h6 h7 h8;have:(execOp a.eval o).run C.P w=.ok .skip w':=by simp [execOp,hop,h1,Instr.storeAt,Instr.sureAddr,h9]
  refine⟨fun f _=>hW.fn f,?_⟩;rw[Yu _ _ _ hnd,this];exact hK _ _ h10
 ·rename_i ty x i hop;split at hu
  rotate_left
  ·split at hu
   rotate_left
   ·cases hu
   rename_i b p j len el hx hj hel;split at hu
   rotate_left
   ·cases hu
   rename_i inf hlt hinf;have hlt:=yq hlt;obtain⟨k,hk,hx⟩:=GV hV hx;have hi:=kD hV hj;have h0:(0:Int)<=Int.ofNat j/\Int.ofNat j<len:=⟨ccS j,Int.ofNat_lt.2 hlt⟩;have hr:(Instr.indexAt ty (.pointer (some ⟨k,p,none⟩)) (.int .i64 (.ofNat j))).run C.P w=.ok (.pointer (some ⟨k,p+j*inf.size,none⟩)) w:=by
    simp only[Instr.indexAt,asIntOf,underlying,jc,zk,cae,jC,hel,Instr.sureAddr,co h0,jZ hinf,jL];rfl
   injection hu with hu;subst hu
   exact cJ hW hnd (v:=.pointer (some ⟨k,p+j*inf.size,none⟩)) (w':=w) (by simp only[execOp,hop,hx,hi,jc,hr];rfl) (hK _ _ (uk.here hg ⟨k,hk,rfl⟩))
  rename_i s hs;split at hu
  rotate_left
  ·cases hu
  rename_i j hj;have hi:=kD hV hj;obtain⟨v,h1,h2⟩:=xIx_is hC hV hM hg hs hu hf ho;exact cJ hW hnd (v:=v) (w':=w) (by simp only[execOp,hop,hi,jc,h1];rfl) (hK _ _ h2)
 ·rename_i s x f hop;obtain⟨v,h1,h2⟩:=xFa_is hV hM hg hu hf;exact cJ hW hnd (v:=v) (w':=w) (by simp only[execOp,hop,jc,h1];rfl) (hK _ _ h2)
 ·rename_i ty x lo hi hop;obtain⟨v,h1,h2⟩:=xSl_is hC hV hM hg hu hf ho;exact cJ hW hnd (v:=v) (w':=w) (by simp only[execOp,hop,KV,jc,h1];rfl) (hK _ _ h2)
 ·rename_i ty l c hop;split at hu
  rotate_left
  ·cases hu
  cases hl:lit? (cG V l) with
  |none=>rw[hl] at hu;simp [xMk] at hu
  |some vl =>
   cases hc:lit? (cG V c) with
   |none=>rw[hl,hc] at hu;unfold xMk at hu;split at hu<;>simp_all
   |some vc =>
    rw[hl,hc] at hu;obtain⟨v,w',h1,h2⟩:=xMk_is hC hg hu hf ho;exact cJ hW hnd (w':=w') (by simp [execOp,hop,kD hV hl,kD hV hc,h1]) (hK _ _ h2)
 ·rename_i ty hop;have key:∃ v w',(Instr.buildSlice ty 0 #[]).run C.P w=.ok v w'/\uk C e w n0 t v w':=by
   split at hu
   ·exact xBp_is hg hu hf
   ·exact xBs_is hg hu hf
  obtain⟨v,w',h1,h2⟩:=key;refine cJ hW hnd (w':=w') ?_ (hK _ _ h2);simp only[execOp,hop,jc];rw[show (Array.map (fun x:Nat×Operand=>(x.1,a.eval x.2)) { toList:=[] })=#[] by simp,h1];rfl
 ·rename_i ty x hop;split at hu
  ·cases hu
  refine cJ hW hnd (v:=.pointer (some ⟨w.heap.size,0,none⟩)) (w':={ w with heap:=w.heap.push (.cells (a.eval x).cells ty) }) ?_ (hK _ _ (xBox_is hC hV hM hg hu hf));simp [execOp,hop,Instr.box,EG]
 ·rename_i ty parts hop;split at hu
  rotate_left
  ·cases hu
  split at hu
  rotate_left
  ·cases hu
  rename_i vs hvs;have hp:parts.map (fun p:Nat×Operand=>(p.1,a.eval p.2))=vs.toArray:=by
   apply CO;rw[YK,caV hV hvs]
  refine GY hW hnd hg hu (fun v w' h=>?_) hK;simp only[execOp,hop,jc];rw[show (Array.map (fun x:Nat×Operand=>(x.1,a.eval x.2)) parts)=vs.toArray from hp,h];rfl
 ·rename_i ty x y u hop;split at hu
  rotate_left
  ·cases hu
  rename_i p el hx hy hel;obtain⟨b,o',n⟩:=p;obtain⟨k,cp,hk,hx⟩:=ZW hV hx;have hy:=kD hV hy;refine zn hW hnd hg hu (v:=.bool false) ?_ rfl hK;have hgd:(eqGuard .eql ty x y (.slice (some ⟨k,o',none⟩) n cp) (.slice none 0 0)).run C.P w=.ok () w:=rfl;have he:(Go.binOp .eql ty (.slice (some ⟨k,o',none⟩) n cp) (.slice none 0 0)).run C.P w=.ok (.bool false) w:=by
   have h0:(Op.equalIn (9999+1) ty (.slice (some ⟨k,o',none⟩) n cp) (.slice none 0 0)).run C.P w=.ok false w:=by
    generalize 9999=d;simp [Op.equalIn,ud hel]
   have h1:(Op.equal ty (.slice (some ⟨k,o',none⟩) n cp) (.slice none 0 0)).run C.P w=.ok false w:=h0;simp [Go.binOp,h1]
  simp only[execOp,hop,hx,hy,jc,hgd,he,jC];rfl
 ·rename_i c hop;split at hu
  ·rename_i hcal;split at hu
   rotate_left
   ·cases hu
   rename_i x hargs;have ha:c.args.map a.eval=#[a.eval x]:=by
    apply CO;simp [hargs]
   split at hu
   rotate_left
   ·cases hu
   rename_i s ty hs hty;split at hu
   rotate_left
   ·cases hu
   rename_i el hel;obtain⟨ao,cp,hx,_⟩:=(YZ hC hV hM hg hs).1.shape;refine zn hW hnd hg hu (v:=goInt s.L.n) ?_ rfl hK;have hty':c.argTypes[0]?=some ty:=hty;simp [execOp,hop,resolve,hcal,ha,invoke,builtin,Builtin.len_,hty',ud hel,hx]
  ·rename_i hcal;split at hu
   rotate_left
   ·cases hu
   rename_i s x hargs;have ha:c.args.map a.eval=#[a.eval s,a.eval x]:=by
    apply CO;simp [hargs]
   obtain⟨v,w',h1,h2⟩:=xApp_is hC hV hM hg hu hf ho o.type;have h1:(Builtin.append_ c.argTypes o.type #[a.eval s,a.eval x]).run C.P w=.ok v w':=by simpa using h1
   exact cJ hW hnd (w':=w') (by simp [execOp,hop,resolve,hcal,ha,invoke,builtin,h1]) (hK _ _ h2)
  ·cases hu
 ·cases hu
theorem cpj (hW:Wd F) (hC:C.Ok) (hT:T.Ok C) (hF:CF.Ok C) (hY:zQ C YF) (hV:jD e a V) (hM:jm C e w M) (hg:jr C e w) (hu:chJ C.toStat T CF YF V M n0 o=some t) (hf:um n0 t.n1 e) (ho:jE t.ob)
 (hK:∀ v w',uk C e w n0 t v w'->K (a.put o.dst v) w'):o.wpIn F m C.P a w K Q:=by
 unfold chJ at hu;split at hu
 ·rename_i r hr;injection hu with hu;subst hu
  exact cpp hW hV hM hg hr hf hK
 split at hu
 ·rename_i r hr;injection hu with hu;subst hu
  exact cpi hW hC hV hM hg hr hf ho hK
 ·exact GH hW hC hT hF hY hV hM hg hu hf ho hK
end
section
variable {S:Stat D}{T:Tab D}{V:jv}{M:cR D}{n0:Nat}{o:Oper}{t:Out D}
theorem coY (hu:cfe S T V M n0 o=some t):n0<=t.n1:=by
 unfold cfe at hu
 repeat' (split at hu<;>try (cases hu;done))
 ·unfold cey at hu
  repeat' (split at hu<;>try (cases hu;done))
  all_goals (rename_i hm;injection hu with hu;subst hu;exact Cr hm)
 ·unfold cag at hu
  repeat' (split at hu<;>try (cases hu;done))
  all_goals (injection hu with hu;subst hu;exact cb _)
 ·unfold xIx at hu
  repeat' (split at hu<;>try (cases hu;done))
  all_goals (injection hu with hu;subst hu;exact yg _)
 ·injection hu with hu;subst hu;exact cb _
 ·unfold xFa at hu
  repeat' (split at hu<;>try (cases hu;done))
  all_goals (injection hu with hu;subst hu;exact yg _)
 ·unfold xSl at hu
  repeat' (split at hu<;>try (cases hu;done))
  all_goals (injection hu with hu;subst hu;exact yg _)
 ·unfold xMk at hu
  repeat' (split at hu<;>try (cases hu;done))
  all_goals (injection hu with hu;subst hu;exact yg _)
 ·unfold xBp zD at hu
  repeat' (split at hu<;>try (cases hu;done))
  all_goals (injection hu with hu;subst hu;exact yg _)
 ·unfold xBs at hu
  repeat' (split at hu<;>try (cases hu;done))
  all_goals (injection hu with hu;subst hu;exact yg _)
 ·unfold xBox at hu
  repeat' (split at hu<;>try (cases hu;done))
  all_goals (injection hu with hu;subst hu;exact cbM _ 2)
 ·unfold uU at hu;split at hu
  ·injection hu with hu;subst hu;exact cb _
  ·cases hu
 ·injection hu with hu;subst hu;exact cb _
 ·injection hu with hu;subst hu;exact cb _
 ·unfold xApp at hu
  repeat' (split at hu<;>try (cases hu;done))
  all_goals (injection hu with hu;subst hu;exact yg _)
end
variable {D:Type}
structure St (D:Type) where
 nb:Nat
 sl:List (Nat×AV)
 m:Ws D
 ms:List Nat
def over (base:cR D) (m:Ws D):cR D:=fun b=>match find b m with
 |some o=>some o
 |none=>base b
def cfU (nt:Nat) (dst:Option Tmp) (x:AV) (sl:List (Nat×AV)):Option (List (Nat×AV)) :=
 match dst with
 |none=>some sl
 |some d=>match Nat.blt d nt with
  |true=>some (kZ [(d,x)] sl)
  |false=>none
def cgy (V:jv) (ops:List Oper) (o:Oper):Option Bool :=
 match o.guard with
 |none=>some true
 |some (j,want)=>match ops[j]? with
  |some oj=>match oj.dst with
   |some t=>match lit? (V t) with
    |some (.bool b)=>match b,want with
     |true,true=>some true
     |false,false=>some true
     |_,_=>some false
    |some (.tuple ⟨[]⟩)=>some false
    |_=>none
   |none=>none
  |none=>none
def ccv (S:Stat D) (T:Tab D) (CF YF:cN D) (V:jv) (M:cR D) (n0:Nat) (ops:List Oper) (o:Oper):Option (Out D) :=
 match cgy V ops o with
 |some true=>chJ S T CF YF V M n0 o
 |some false=>out n0 KU
 |none=>none
def Uo (S:Stat D) (T:Tab D) (CF YF:cN D) (nt:Nat) (base:cR D) (ops:List Oper):List Oper->St D->Option (St D×List Prop)
 |[],st=>some (st,[])
 |o::l,st=>match ccv S T CF YF (fun t=>find t st.sl) (over base st.m) st.nb ops o with
  |some t=>match cfU nt o.dst t.x st.sl with
   |some sl=>match Uo S T CF YF nt base ops l ⟨t.n1,sl,kZ t.ws st.m,st.ms⟩ with
    |some (st',ob)=>some (st',t.ob++ob)
    |none=>none
   |none=>none
  |none=>none
def cN.Mono (CF:cN D):Prop:=∀ M n0 f l t,CF M n0 f l=some t->n0<=t.n1
section
variable {S:Stat D}{T:Tab D}{CF YF:cN D}{V:jv}{M:cR D}{n0:Nat}{t:Out D}
theorem mkR_le {csz:D->Nat}{p:jH D}{s s':Nat}{x:AV}{l:Ws D}(h:mkR csz s p=some (x,l,s')):s<=s':=by
 cases p with
 |val p =>
  simp only[mkR] at h;split at h
  ·rename_i hp;injection h with h
   simp only[cr] at h;have:=cgK hp;omega
  ·cases h
 |tup ps =>
  simp only[mkR] at h;split at h
  ·rename_i hp;injection h with h
   simp only[cr] at h;have:=WU hp;omega
  ·cases h
theorem cgo {x:AV}(h:(out n0 x:Option (Out D))=some t):n0<=t.n1:=by
 injection h with h;subst h;exact cb _
theorem coD {P:Program}{s:Sem Value}(h:(uU P n0 s:Option (Out D))=some t):n0<=t.n1:=by
 unfold uU at h;split at h
 ·exact cgo h
 ·cases h
theorem WA {ty:Nat}{cs:List AC}{z:Option Nat}{x:AC}(h:zD S n0 ty cs z x=some t):n0<=t.n1:=by
 unfold zD at h;split at h
 ·injection h with h;subst h;exact yg _
 ·cases h
theorem ckD {h:Hd}{d:Nat}{xs:List Operand}(hu:EC S T V M n0 d h xs=some t):n0<=t.n1:=by
 unfold EC at hu
 repeat' (split at hu<;>try (cases hu;done))
 rename_i hm;injection hu with hu;subst hu
 exact mkR_le hm
theorem coJ (hF:CF.Mono) {f:FuncId}{d:Nat}{l:List AV}(hu:caY S T CF M n0 d f l=some t):n0<=t.n1:=by
 unfold caY at hu;split at hu
 ·rename_i hr;injection hu with hu;subst hu
  unfold memA at hr
  repeat' (split at hr<;>try (cases hr;done))
  injection hr with hr;subst hr
  exact cb _
 split at hu
 ·repeat' (split at hu<;>try (cases hu;done))
  rename_i hm;injection hu with hu;subst hu
  exact mkR_le hm
 ·exact hF _ _ _ _ _ hu
theorem cmy {ty b o:Nat}{cs:List AC}(hu:cab S M n0 ty b o cs=some t):n0<=t.n1:=by
 unfold cab at hu
 repeat' (split at hu<;>try (cases hu;done))
 injection hu with hu;subst hu
 exact cb _
theorem bsA_le {ty n:Nat}{ps:Array (Nat×Operand)}(hu:bsA S V M n0 ty n ps=some t):n0<=t.n1:=by
 unfold bsA at hu
 repeat' (split at hu<;>try (cases hu;done))
 exact WA hu
theorem mkA_le {ty:Nat}{l c:Option Value}(hu:mkA S n0 ty l c=some t):n0<=t.n1:=by
 unfold mkA at hu
 repeat' (split at hu<;>try (cases hu;done))
 exact WA hu
theorem ciG {ats:List Nat}{s:AV}{x:Option AV}(hu:WZ S M n0 ats s x=some t):n0<=t.n1:=by
 unfold WZ at hu
 repeat' (split at hu<;>try (cases hu;done))
 all_goals first
  |exact WA hu
  |(injection hu with hu;subst hu;first|exact cb _|exact yg _)
theorem cmK {ats:List Nat}{x:Option AV}(hu:caw S M n0 ats x=some t):n0<=t.n1:=by
 unfold caw at hu
 repeat' (split at hu<;>try (cases hu;done))
 injection hu with hu;subst hu
 exact cb _
theorem cmp {ty:Nat}{x:Option AV}{lo hi mx:Option Operand}(hu:ZH S V M n0 ty x lo hi mx=some t):n0<=t.n1:=by
 unfold ZH at hu
 repeat' (split at hu<;>try (cases hu;done))
 all_goals exact cgo hu
theorem cmX (hF:CF.Mono) (hYF:YF.Mono) {o:Oper}(hu:Ge S T CF YF V M n0 o=some t):n0<=t.n1:=by
 rw[cao] at hu;unfold cbO at hu;simp only at hu
 repeat' (split at hu<;>try (cases hu;done))
 all_goals first
  |exact cgo hu
  |exact coD hu
  |exact WA hu
  |exact ckD hu
  |exact coJ hF hu
  |exact cmy hu
  |exact bsA_le hu
  |exact ciG hu
  |exact cmK hu
  |exact hYF _ _ _ _ _ hu
  |(injection hu with hu;subst hu;rename_i h;first|exact cmp h|exact mkA_le h|exact ckD h)
  |(injection hu with hu;subst hu;exact yg _)
theorem cpg (hF:CF.Mono) (hYF:YF.Mono) {o:Oper}(hu:chJ S T CF YF V M n0 o=some t):n0<=t.n1:=by
 unfold chJ at hu;split at hu
 ·rename_i r hr;injection hu with hu;subst hu
  exact coz hr
 split at hu
 ·rename_i r hr;injection hu with hu;subst hu
  exact coY hr
 ·exact cmX hF hYF hu
theorem chw (hF:CF.Mono) (hYF:YF.Mono) {ops:List Oper}{o:Oper}(hu:ccv S T CF YF V M n0 ops o=some t):n0<=t.n1:=by
 unfold ccv at hu;split at hu
 ·exact cpg hF hYF hu
 ·exact cgo hu
 ·cases hu
theorem caD (hF:CF.Mono) (hYF:YF.Mono) {nt:Nat}{base:cR D}{ops:List Oper}:∀ {l:List Oper}{st st':St D}{ob:List Prop},Uo S T CF YF nt base ops l st=some (st',ob)->st.nb<=st'.nb
 |[],st,st',ob,h=>by
  simp only[Uo,kJ,cr] at h;rw[h.1];exact cb _
 |o::l,st,st',ob,h=>by
  simp only[Uo] at h;split at h
  ·rename_i t ht;split at h
   ·split at h
    ·rename_i st1 ob1 hs;injection h with h;injection h with h1 h2;subst h1
     exact cA (chw hF hYF ht) (caD hF hYF hs)
    ·cases h
   ·cases h
  ·cases h
end
def UF (r:Nat):Deferred:={ target:=.collected r,args:=#[] }
def Yd (e:Env):List Nat->List Nat->Prop
 |[],rs=>rs=[]
 |b::bs,rs=>∃ r rs',rs=r::rs'/\e.ρ b=some r/\Yd e bs rs'
theorem Yd.ext {e e':Env}(h:Ext e e'):∀ {bs rs:List Nat},Yd e bs rs->Yd e' bs rs
 |[],_,hm=>hm
 |_::_,_,⟨r,rs',h1,h2,h3⟩=>⟨r,rs',h1,h.ρ _ _ h2,Yd.ext h h3⟩
structure Sat (C:Ctx D) (nt:Nat) (e0:Env) (w0:World) (n0:Nat) (st:St D) (a:Act) (w:World):Prop where
 ex:∃ e,ut C e0 w0 n0 st.nb st.m e w/\jD e a (fun t=>find t st.sl)/\∃ rs,a.defers=rs.map UF/\Yd e st.ms rs
 size:a.tmps.size=nt
section
variable {F:Fence}{m:Nat}
variable {C:Ctx D}{e0 e:Env}{w0 w w':World}{a:Act}{T:Tab D}{CF YF:cN D}{n0 nt:Nat}{base:cR D}{Q:Exit->Act->World->Prop}
theorem uI (a:Act) (d:Option Tmp) (v:Value):(a.put d v).tmps.size=a.tmps.size:=by cases d<;>simp [Act.put]
theorem ue (a:Act) (d:Option Tmp) (v:Value):(a.put d v).defers=a.defers:=by cases d<;>rfl
theorem uD (hb:jm C e0 w0 base) {m:Ws D}{n1:Nat}(h:ut C e0 w0 n0 n1 m e w):jm C e w (over base m):=fun b o ho=>by
 unfold over at ho;split at ho
 ·rename_i o' hf;injection ho with ho;subst ho
  exact h.wrote b _ hf
 ·rename_i hn;exact h.kept b o (hb b o ho) hn
theorem cbP {e e':Env}{dst:Option Tmp}{x:AV}{sl sl':List (Nat×AV)}(hs:a.tmps.size=nt) (hV:jD e a (fun t=>find t sl)) (hp:cfU nt dst x sl=some sl') (hx:Ext e e') {v:Value}(hv:x.is e' v):jD e' (a.put dst v) (fun t=>find t sl'):=by
 unfold cfU at hp;split at hp
 ·injection hp with hp;subst hp
  exact hV.ext hx
 ·rename_i d;split at hp
  ·rename_i hd;have hd:=yq hd;injection hp with hp;subst hp
   intro t y hy;have hy:find t (kZ [(d,x)] sl)=some y:=hy;rw[Ew] at hy;by_cases hdt:d=t
   ·subst hdt;simp only[jl,cX,Nat.beq_refl] at hy;injection hy with hy;subst hy
    exact⟨v,by simp [Act.put,hs,hd],hv⟩
   ·have hb:Nat.beq d t=false:=by
     cases h:Nat.beq d t with
     |false=>rfl
     |true=>exact absurd (ct h) hdt
    simp only[jl,cX,hb] at hy;obtain⟨u,h1,h2⟩:=hV.ext hx t y hy;exact⟨u,by simp [Act.put,hdt,h1],h2⟩
  ·cases hp
theorem Yp {ops:Array Oper}{a:Act}{oj:Oper}{j:Nat}{t:Tmp}{b:Bool}(ho:ops[j]?=some oj) (hd:oj.dst=some t) (he:a.eval (.tmp t)=.bool b):yielded ops a.tmps j=some b:=by
 unfold yielded;simp only[ho,Option.bind_some,hd];simp only[Act.eval,uX] at he;cases h:a.tmps[t]? with
 |none=>rw[h] at he;simp [undef] at he
 |some x=>rw[h] at he;simp at he;rw[he]
theorem cho (hW:Wd F) (hC:C.Ok) (hT:T.Ok C) (hF:CF.Ok C) (hY:zQ C YF) {V:jv}{M:cR D}(hV:jD e a V) (hM:jm C e w M) (hg:jr C e w) {ops:Array Oper}{o:Oper}{n:Nat}{t:Out D}(hu:ccv C.toStat T CF YF V M n ops.toList o=some t) (hf:um n t.n1 e) (ho:jE t.ob) {K:Act->World->Prop}
 (hK:∀ v w',uk C e w n t v w'->K (a.put o.dst v) w'):if Region.wanted o (yielded ops a.tmps) then o.wpIn F m C.P a w K Q else K (a.put o.dst undef) w:=by
 unfold ccv at hu;have hgo:∀ g,cgy V ops.toList o=some g->Region.wanted o (yielded ops a.tmps)=g:=by
  intro g hg;unfold cgy at hg;split at hg
  ·rename_i hgu;injection hg with hg;subst hg
   simp [Region.wanted,hgu]
  ·rename_i j want hgu;split at hg
   ·rename_i oj hoj;have hoj:ops[j]?=some oj:=by simpa using hoj
    split at hg
    ·rename_i t ht;split at hg
     ·rename_i b hb;have hy:=Yp hoj ht (kD hV (x:=.tmp t) hb);split at hg<;>injection hg with hg<;>subst hg
      ·simp [Region.wanted,hgu,hy]
      ·simp [Region.wanted,hgu,hy]
      ·rename_i n1 n2;simp only[Region.wanted,hgu,hy];cases b<;>cases want<;>simp_all
     ·rename_i hb;have he:a.eval (.tmp t)=.tuple #[]:=kD hV (x:=.tmp t) hb;injection hg with hg;subst hg
      have hy:yielded ops a.tmps j=none:=by
       unfold yielded;simp only[hoj,Option.bind_some,ht];simp only[Act.eval,uX] at he;cases h:a.tmps[t]? with
       |none=>rfl
       |some x=>rw[h] at he;simp at he;rw[he]
      simp [Region.wanted,hgu,hy]
     ·cases hg
    ·cases hg
   ·cases hg
 split at hu
 ·rename_i hgu;rw[hgo _ hgu,co rfl];exact cpj hW hC hT hF hY hV hM hg hu hf ho hK
 ·rename_i hgu;rw[hgo _ hgu,cg (by simp)];injection hu with hu;subst hu
  exact hK _ _ (uk.here hg rfl)
 ·cases hu
theorem cdW (hW:Wd F) (hC:C.Ok) (hT:T.Ok C) (hF:CF.Ok C) (hFm:CF.Mono) (hY:zQ C YF) (hYm:YF.Mono) (hb:jm C e0 w0 base) {ops:Array Oper}:∀ (k:Nat) (l:List Oper) (i:Nat) (st st':St D) (ob:List Prop),l.length=k->ops.toList.drop i=l->Uo C.toStat T CF YF nt base ops.toList l st=some (st',ob)->jE ob->um n0 st'.nb e0->
 (∀ a w,Sat C nt e0 w0 n0 st' a w->Q .normal a w)->∀ a w,Sat C nt e0 w0 n0 st a w->wpOpsIn F m C.P ops Q (List.range' i k) a w
 |0,l,i,st,st',ob,hl,hd,h,ho,hf,hQ,a,w,hs=>by
  have:l=[]:=by simpa using hl
  subst this;simp only[Uo,kJ,cr] at h;rw[← h.1] at hQ;exact hQ a w hs
 |k+1,[],i,st,st',ob,hl,hd,h,ho,hf,hQ,a,w,hs=>by simp at hl
 |k+1,o::l,i,st,st',ob,hl,hd,h,ho,hf,hQ,a,w,hs=>by
  simp only[Uo] at h;split at h
  ·rename_i t ht;split at h
   ·rename_i sl hsl;split at h
    ·rename_i st1 ob1 hrest;injection h with h;injection h with h1 h2;subst h1;subst h2
     obtain⟨ho1,ho2⟩:=ho.append;have hmono:=caD hFm hYm hrest;obtain⟨⟨e,hL,hV,rs,hdf,hmk⟩,hsz⟩:=hs;have hio:ops[i]?=some o:=by
      have:=cQ (fun l=>l[0]?) hd;simpa using this
     have hf1:um st.nb t.n1 e:=(hf.new (hL.new.mono (cb _) (cb _)) hL.le).mono (cb _) hmono;have hstep:=cho (F:=F) (m:=m) (Q:=Q) (K:=wpOpsIn F m C.P ops Q (List.range' (i+1) k)) hW hC hT hF hY hV (uD hb hL) hL.good ht hf1 ho1 (fun v w' hD=>by
      obtain⟨e',hL',hx⟩:=hD;refine cdW hW hC hT hF hFm hY hYm hb k l (i+1) ⟨t.n1,sl,kZ t.ws st.m,st.ms⟩ st1 ob1 (by simpa using hl) ?_ hrest ho2 hf hQ _ _ ⟨⟨e',hL.trans hL',cbP hsz hV hsl hL'.adv.ext hx,rs,by rw[ue,hdf],hmk.ext hL'.adv.ext⟩,by rw[uI,hsz]⟩;rw[← zU,hd];rfl)
     rw[cbK];simp only[wpOpsIn,hio];split at hstep
     ·rename_i hw;rw[co hw];exact hstep
     ·rename_i hw;rw[cg hw];exact⟨fun f _=>hW.fn f,hstep⟩
    ·cases h
   ·cases h
  ·cases h
end
variable {D:Type}
section
variable {F:Fence}{m:Nat}{P:Program}{ops:Array Oper}{Q:Exit->Act->World->Prop}{md:Region.Mode}
def cgC (l:Array Bool):Nat:=(l.toList.filter (fun b=>!b)).length
theorem chf {l:Array Bool}{i:Nat}(h:l[i]?=some false):cgC (l.setIfInBounds i true)+1=cgC l:=by
 obtain⟨xs⟩:=l;unfold cgC;simp only[List.getElem?_toArray] at h;simp only[List.setIfInBounds_toArray]
 induction xs generalizing i with
 |nil=>simp at h
 |cons x xs ih =>
  cases i with
  |zero=>simp at h;subst h;simp
  |succ i =>
   simp at h;have:=ih h;cases x<;>simp [List.set_cons_succ]<;>omega
theorem Uy {l:Array Bool}{i:Nat}(hm:i∈Region.ready md ops l):l[i]?=some false:=by
 have h1:=(mem_ready.1 hm).1;have hlt:i<l.size:=by
  rcases jd i l.size with h|h
  ·exact h
  ·simp [Zp h] at h1
 rw[Ue hlt];simp [hlt] at h1;rw[h1]
theorem any_inv (Inv:Array Bool->Act->World->Prop)
 (step:∀ l a w i,l.size=ops.size->Inv l a w->i∈Region.ready md ops l->wpOpIn F m P ops Q i (fun a' w'=>Inv (l.setIfInBounds i true) a' w') a w)
 (done:∀ l a w,l.size=ops.size->Inv l a w->Region.ready md ops l=[]->Q .normal a w) :
 ∀ (fuel:Nat) (l:Array Bool) (a:Act) (w:World),l.size=ops.size->cgC l<=fuel->Inv l a w->wpAnyIn F m P md ops Q fuel l a w:=by
 intro fuel
 induction fuel with
 |zero =>
  intro l a w hs hl hi;have hr:Region.ready md ops l=[]:=by
   cases hx:Region.ready md ops l with
   |nil=>rfl
   |cons i is =>
    have hm:i∈Region.ready md ops l:=by rw[hx];simp
    have:=chf (Uy hm);omega
  exact⟨hr,done l a w hs hi hr⟩
 |succ fuel ih =>
  intro l a w hs hl hi;refine⟨fun hr=>done l a w hs hi hr,fun i hm=>?_⟩;have h3:=chf (Uy hm);exact wpOpIn_mono (fun a' w' h=>ih _ a' w' (by simpa using hs) (by omega) h) (step l a w i hs hi hm)
theorem coX {l:Array Bool}(hs:l.size=ops.size) (ht:∀ (i:Nat) (o:Oper),ops[i]?=some o->∀ e∈o.after,Region.binds md e=true->e.on<i) (hr:Region.ready md ops l=[]) :
 ∀ i,i<ops.size->l[i]?=some true:=by
 intro i
 induction i using Nat.strongRecOn with
 |ind i ih =>
  intro hi;have hl:i<l.size:=by omega
  rw[Ue hl];cases hb:l[i] with
  |true=>rfl
  |false =>
   exfalso;have hm:i∈Region.ready md ops l:=by
    refine mem_ready.2 ⟨by simp [hl,hb],ops[i],Ue hi,fun e he hbi=>?_⟩;have h1:=ht i ops[i] (Ue hi) e he hbi;have h2:=ih e.on h1 (by omega);simp [h2]
   rw[hr] at hm;cases hm
end
def zd (pres:List Nat):List Edge->Nat
 |[]=>0
 |ed::l=>match Region.binds .any ed with
  |true=>2^ed.on||| pres.getD ed.on 0||| zd pres l
  |false=>zd pres l
def jj:List Nat->List Oper->List Nat
 |acc,[]=>acc
 |acc,o::l=>jj (acc++[zd acc o.after.toList]) l
theorem EJ {pres:List Nat}{j:Nat}:∀ {l:List Edge},(zd pres l).testBit j=true->∃ ed∈l,Region.binds .any ed=true/\(ed.on=j\/(pres.getD ed.on 0).testBit j=true)
 |[],h=>by simp [zd] at h
 |ed::l,h=>by
  unfold zd at h;split at h
  ·rename_i hb;simp only[Nat.testBit_or,Wj] at h;rcases h with(h|h)|h
   ·rw[Nat.testBit_two_pow] at h;exact⟨ed,by simp,hb,.inl (by simpa using h)⟩
   ·exact⟨ed,by simp,hb,.inr h⟩
   ·obtain⟨d,h1,h2⟩:=EJ h;exact⟨d,uL _ h1,h2⟩
  ·obtain⟨d,h1,h2⟩:=EJ h;exact⟨d,uL _ h1,h2⟩
theorem Cj:∀ (l:List Oper) (acc:List Nat),∃ r,jj acc l=acc++r/\r.length=l.length
 |[],acc=>⟨[],by simp [jj],rfl⟩
 |o::l,acc=>by
  obtain⟨r,h1,h2⟩:=Cj l (acc++[zd acc o.after.toList]);exact⟨zd acc o.after.toList::r,by simp [jj,h1],by simp [h2]⟩
theorem CL:∀ (l:List Oper) (acc:List Nat) (i:Nat) (o:Oper),l[i]?=some o->∀ j,((jj acc l).getD (acc.length+i) 0).testBit j=true->
 ∃ ed∈o.after.toList,Region.binds .any ed=true/\(ed.on=j\/((jj acc l).getD ed.on 0).testBit j=true)
 |[],acc,i,o,h,j,hj=>by simp at h
 |o'::l,acc,0,o,h,j,hj=>by
  simp at h;subst h;obtain⟨r,h1,h2⟩:=Cj l (acc++[zd acc o'.after.toList]);have h3:jj acc (o'::l)=acc++(zd acc o'.after.toList::r):=by simp [jj,h1]
  rw[h3] at hj ⊢;simp at hj;obtain⟨ed,h4,h5,h6⟩:=EJ hj;refine⟨ed,h4,h5,h6.imp (fun h=>h) fun h6=>?_⟩;have hlt:ed.on<acc.length:=by
   rcases jd ed.on acc.length with h|h
   ·exact h
   ·simp [List.getD,yA h] at h6
  simpa [List.getD,KQ hlt] using h6
 |o'::l,acc,i+1,o,h,j,hj=>by
  have:=CL l (acc++[zd acc o'.after.toList]) i o (by simpa using h) j (by
   have h1:acc.length+(i+1)=(acc++[zd acc o'.after.toList]).length+i:=by simp;omega
   rw[← h1];exact hj)
  exact this
def ES:List Oper->Nat->Bool
 |[],_=>true
 |o::l,i=>match o.after.toList.all (fun ed=>match Region.binds .any ed with
  |true=>Nat.blt ed.on i
  |false=>true) with
  |true=>ES l (i+1)
  |false=>false
theorem yQ:∀ {l:List Oper}{i:Nat},ES l i=true->∀ j o,l[j]?=some o->∀ ed∈o.after,Region.binds .any ed=true->ed.on<i+j
 |[],i,_,j,o,hj=>by simp at hj
 |x::l,i,h,j,o,hj=>by
  unfold ES at h;split at h
  ·rename_i hx;cases j with
   |zero =>
    simp at hj;subst hj;intro ed hed hb;have:=List.all_eq_true.1 hx ed (by simpa using hed);simp only[hb] at this;simpa using yq this
   |succ j =>
    intro ed hed hb;have:=yQ h j o (by simpa using hj) ed hed hb;omega
  ·cases h
theorem pre_lt {ops:List Oper}(h:ES ops 0=true):∀ (i:Nat),i<ops.length->∀ j,((jj [] ops).getD i 0).testBit j=true->j<i:=by
 intro i
 induction i using Nat.strongRecOn with
 |ind i ih =>
  intro hi j hj;obtain⟨ed,h1,h2,h3⟩:=CL ops [] i ops[i] (kb hi) j (by simpa using hj);have h4:=yQ h i ops[i] (kb hi) ed (by simpa using h1) h2;rw[je] at h4;rcases h3 with rfl|h3
  ·exact h4
  ·exact KD (ih ed.on h4 (KD h4 hi) j h3) h4
def Ul (pres:List Nat) (i j:Nat):Bool :=
 match Nat.beq i j with
 |true=>false
 |false=>match (pres.getD i 0).testBit j with
  |true=>false
  |false=>match (pres.getD j 0).testBit i with
   |true=>false
   |false=>true
def memL (k:Nat):List Nat->Bool
 |[]=>false
 |b::l=>match Nat.beq b k with
  |true=>true
  |false=>memL k l
def blksC:AC->List Nat
 |.ptr b _=>[b]
 |.slc b _ _ _=>[b]
 |.gsl b _=>[b]
 |.gso b _ _ _=>[b]
 |.fn b=>[b]
 |.yld b=>[b]
 |_=>[]
def chV:A1->List Nat
 |.one c=>blksC c
 |.agg cs=>cs.flatMap blksC
def ccM:Option AV->List Nat
 |some (.val a)=>chV a
 |some (.tup l)=>l.flatMap chV
 |none=>[]
def blksO:Option (EZ D)->List Nat
 |some (.blk _ cs _)=>cs.flatMap blksC
 |some (.clo _ pre cap)=>pre.flatMap chV++cap.flatMap chV
 |some (.loop _ sl ..)=>sl.flatMap fun p=>ccM (some p.2)
 |some (.ep b ..)=>[b]
 |some (.mp es _)=>es.flatMap fun p=>chV p.2.1
 |_=>[]
def fnsC:AC->List Nat
 |.fn b=>[b]
 |_=>[]
def cdo:Option AV->List Nat
 |some (.val (.one c))=>fnsC c
 |some (.val (.agg cs))=>cs.flatMap fnsC
 |_=>[]
def epsV (M:cR D):Option AV->List Nat
 |some (.val (.one (.fn b)))=>match M b with
  |some (.ep l ..)=>[l]
  |_=>[]
 |_=>[]
def ciN (M:cR D):Nat->List Nat->List Nat->List Nat
 |0,_,seen=>seen
 |_+1,[],seen=>seen
 |n+1,b::l,seen=>match memL b seen with
  |true=>ciN M n l seen
  |false=>ciN M n (blksO (M b)++l) (b::seen)
def looks (V:jv) (M:cR D) (o:Oper):List Nat :=
 match o.op with
 |.load _ x=>ccM (cG V x)++epsV M (cG V x)
 |.store _ x y=>ccM (cG V x)++(epsV M (cG V x)++cdo (cG V y))
 |.indexAddr _ x _=>cdo (cG V x)
 |.box _ x=>cdo (cG V x)
 |.build _ ps=>ps.toList.flatMap fun p=>cdo (cG V p.2)
 |.buildSlice _ _ ps=>ps.toList.flatMap fun p=>cdo (cG V p.2)
 |.call c=>match c.callee with
  |.builtin .len=>c.args.toList.flatMap fun x=>cdo (cG V x)
  |.builtin _=>c.args.toList.flatMap fun x=>ccM (cG V x)
  |.value f=>ciN M 1000 (ccM (cG V f)++c.args.toList.flatMap fun x=>ccM (cG V x)) []
  |_=>[]
 |.slice _ x ..=>ccM (cG V x)
 |.lookup _ x _ _=>cdo (cG V x)
 |.mapUpdate _ x _ y=>cdo (cG V x)++cdo (cG V y)
 |.insert _ x _ y=>cdo (cG V x)++cdo (cG V y)
 |_=>[]
abbrev Acc (D:Type):=List (Nat×Out D)
def ka (p:Nat->Bool) (b:Nat):Acc D->Nat->Option (EZ D)->Option (EZ D)
 |[],_,cur=>cur
 |t::W,j,cur=>match p j with
  |true=>match find b t.2.ws with
   |some o=>ka p b W (j+1) (some o)
   |none=>ka p b W (j+1) cur
  |false=>ka p b W (j+1) cur
def js (p:Nat->Bool) (t:Nat):List Oper->Acc D->Nat->Option AV->Option AV
 |o::ops,x::W,j,cur=>match p j with
  |true=>match o.dst with
   |some d=>match Nat.beq d t with
    |true=>js p t ops W (j+1) (some x.2.x)
    |false=>js p t ops W (j+1) cur
   |none=>js p t ops W (j+1) cur
  |false=>js p t ops W (j+1) cur
 |_,_,_,cur=>cur
def KS (pres:List Nat) (i t:Nat):List Oper->Nat->Bool
 |[],_=>false
 |o::l,j=>match o.dst with
  |some d=>match Nat.beq d t with
   |true=>match Ul pres i j with
    |true=>true
    |false=>KS pres i t l (j+1)
   |false=>KS pres i t l (j+1)
  |none=>KS pres i t l (j+1)
def JR (pres:List Nat) (ops:List Oper) (acc:Acc D) (base:jv) (i:Nat):jv:=fun t =>
 match KS pres i t ops 0 with
 |true=>none
 |false=>js (pres.getD i 0).testBit t ops acc 0 (base t)
def cdL (pres:List Nat) (acc:Acc D) (base:cR D) (nb i:Nat):cR D:=fun b =>
 ka (pres.getD i 0).testBit b acc 0 (match Nat.ble nb b with
  |true=>none
  |false=>base b)
def caN (pres:List Nat) (acc:Acc D) (base:cR D) (nb i:Nat) (q:List Nat):cR D:=fun b =>
 match cdL pres acc base nb i b with
 |some (.blk ty cs z)=>match memL b q with
  |false=>none
  |true=>some (.blk ty cs z)
 |some (.gl ty z n g)=>match memL b q with
  |false=>none
  |true=>some (.gl ty z n g)
 |some (.mp es ck)=>match memL b q with
  |false=>none
  |true=>some (.mp es ck)
 |some .dead=>none
 |r=>r
def ccB (S:Stat D) (T:Tab D) (CF YF:cN D) (pres:List Nat) (ops:List Oper) (bs:jv) (bm:cR D) (nb:Nat):List Oper->Nat->Nat->Acc D->Option (Acc D×Nat×List Prop)
 |[],_,n,acc=>some (acc,n,[])
 |o::l,i,n,acc=>match ccv S T CF YF (JR pres ops acc bs i) (caN pres acc bm nb i (looks (JR pres ops acc bs i) (cdL pres acc bm nb i) o)) n ops o with
  |some t=>match ccB S T CF YF pres ops bs bm nb l (i+1) t.n1 (acc++[(n,t)]) with
   |some (W,n',ob)=>some (W,n',t.ob++ob)
   |none=>none
  |none=>none
def cbA (M:cR D) (ws:Ws D):Ws D->Bool
 |[]=>true
 |p::l=>match M p.1 with
  |some _=>false
  |none=>match memN p.1 ws with
   |true=>false
   |false=>cbA M ws l
def UE (pres:List Nat) (M:cR D) (ws:Ws D) (i:Nat):Acc D->Nat->Bool
 |[],_=>true
 |t::W,j=>match t.2.ws with
  |[]=>UE pres M ws i W (j+1)
  |p::l=>match Ul pres i j with
   |true=>match cbA M ws (p::l) with
    |true=>UE pres M ws i W (j+1)
    |false=>false
   |false=>UE pres M ws i W (j+1)
def clG (pres:List Nat) (ops:List Oper) (W:Acc D) (bs:jv) (bm:cR D) (nb:Nat):List Oper->Acc D->Nat->Bool
 |o::l,t::W',i=>match (match o.dst with
  |some d=>KS pres i d ops 0
  |none=>false) with
  |true=>false
  |false=>match UE pres (caN pres W bm nb i (looks (JR pres ops W bs i) (cdL pres W bm nb i) o)) t.2.ws i W 0 with
   |true=>clG pres ops W bs bm nb l W' (i+1)
   |false=>false
 |[],[],_=>true
 |_,_,_=>false
def UD (nt:Nat):List Oper->Acc D->List (Nat×AV)->Option (List (Nat×AV))
 |o::l,t::W,sl=>match cfU nt o.dst t.2.x sl with
  |some sl'=>UD nt l W sl'
  |none=>none
 |_,_,sl=>some sl
def cdr:Acc D->Ws D->Ws D
 |[],m=>m
 |t::W,m=>cdr W (kZ t.2.ws m)
def Zw (S:Stat D) (T:Tab D) (CF YF:cN D) (nt:Nat) (base:cR D) (ops:List Oper) (st:St D):Option (St D×List Prop) :=
 match ES ops 0 with
 |false=>none
 |true=>match ccB S T CF YF (jj [] ops) ops (fun t=>find t st.sl) (over base st.m) st.nb ops 0 st.nb [] with
  |none=>none
  |some (W,n,ob)=>match clG (jj [] ops) ops W (fun t=>find t st.sl) (over base st.m) st.nb ops W 0 with
   |false=>none
   |true=>match UD nt ops W st.sl with
    |some sl=>some (⟨n,sl,kZ (cdr W []) st.m,st.ms⟩,ob)
    |none=>none
section
variable {pres:List Nat}
theorem chD {i j:Nat}(h:Ul pres i j=false):i=j\/(pres.getD i 0).testBit j=true\/(pres.getD j 0).testBit i=true:=by
 unfold Ul at h;split at h
 ·rename_i hb;exact .inl (ct hb)
 ·split at h
  ·rename_i hb;exact .inr (.inl hb)
  ·split at h
   ·rename_i hb;exact .inr (.inr hb)
   ·cases h
theorem cjt {i j:Nat}(h1:i≠j) (h2:(pres.getD i 0).testBit j=false) (h3:(pres.getD j 0).testBit i=false):Ul pres i j=true:=by
 unfold Ul;have:Nat.beq i j=false:=by
  cases h:Nat.beq i j with
  |false=>rfl
  |true=>exact absurd (ct h) h1
 simp [this];rw[List.getD] at h2 h3;simp [h2,h3]
theorem Jh {p:Nat->Bool}{b:Nat}:∀ {W:Acc D}{j:Nat}{cur:Option (EZ D)},ka p b W j cur=(match ka p b W j none with|some o=>some o|none=>cur)
 |[],j,cur=>rfl
 |t::W,j,cur=>by
  unfold ka;split
  ·split
   ·rw[Jh];cases ka p b W (j+1) none<;>rfl
   ·exact Jh
  ·exact Jh
theorem CT {p q:Nat->Bool}{b:Nat}:∀ {W:Acc D}{j:Nat}{cur:Option (EZ D)},(∀ x t,W[x]?=some t->find b t.2.ws≠none->p (j+x)=q (j+x))->ka p b W j cur=ka q b W j cur
 |[],j,cur,_=>rfl
 |t::W,j,cur,h=>by
  have hr:∀ cur,ka p b W (j+1) cur=ka q b W (j+1) cur:=fun cur=>CT (fun x t' hx hf=>by
   have:=h (x+1) t' (by simpa using hx) hf;rw[show j+1+x=j+(x+1) by omega];exact this)
  unfold ka;cases hf:find b t.2.ws with
  |none =>
   simp only[];rw[hr];cases p j<;>cases q j<;>rfl
  |some o =>
   have:=h 0 t (by simp) (by rw[hf];simp);rw[kh] at this;rw[this];simp only[];rw[hr,hr]
theorem cbe {p:Nat->Bool}{b:Nat}:∀ {W:Acc D}{j i:Nat}{cur:Option (EZ D)},(∀ x,j+i<=x->p x=false)->ka p b (W.take i) j cur=ka p b W j cur
 |[],j,i,cur,_=>by simp
 |t::W,j,0,cur,h=>by
  have:∀ (W:Acc D) (j:Nat),(∀ x,j<=x->p x=false)->ka p b W j cur=cur:=by
   intro W
   induction W with
   |nil=>intro j _;rfl
   |cons t W ih =>
    intro j hj;unfold ka;rw[hj j (cb _)];exact ih (j+1) (fun x hx=>hj x (by omega))
  rw[this (t::W) j (fun x hx=>h x (by omega))];rfl
 |t::W,j,i+1,cur,h=>by
  have hr:∀ cur,ka p b (W.take i) (j+1) cur=ka p b W (j+1) cur:=fun cur=>cbe (fun x hx=>h x (by omega));rw[Ya];unfold ka;simp only[hr]
theorem cis {p:Nat->Bool}{b i:Nat}{o:EZ D}:∀ {W:Acc D}{j:Nat}{cur:Option (EZ D)}{t:Nat×Out D},W[i]?=some t->p (j+i)=true->find b t.2.ws=some o->(∀ x t',i<x->W[x]?=some t'->p (j+x)=true->find b t'.2.ws=none)->ka p b W j cur=some o:=by
 intro W
 induction W generalizing i with
 |nil=>intro j cur t h;simp at h
 |cons t0 W ih =>
  intro j cur t h hp hf hx;cases i with
  |zero =>
   simp at h;subst h;unfold ka;rw[kh] at hp;rw[hp,hf];simp only[];have:∀ (W:Acc D) (j:Nat) (cur:Option (EZ D)),(∀ x t',W[x]?=some t'->p (j+x)=true->find b t'.2.ws=none)->ka p b W j cur=cur:=by
    intro W
    induction W with
    |nil=>intro j cur _;rfl
    |cons t W ih =>
     intro j cur hj;unfold ka;have hr:=ih (j+1) cur (fun x t' h1 h2=>hj (x+1) t' (by simpa using h1) (by rw[show j+(x+1)=j+1+x by omega];exact h2));cases hpj:p j with
     |true =>
      have:=hj 0 t (by simp) (by simpa using hpj);simp only[this];exact hr
     |false=>exact hr
   exact this W (j+1) _ (fun x t' h1 h2=>hx (x+1) t' (by omega) (by simpa using h1) (by rw[show j+(x+1)=j+1+x by omega];exact h2))
  |succ i =>
   have hr:∀ cur,ka p b W (j+1) cur=some o:=fun cur=>ih (by simpa using h) (by rw[show j+1+i=j+(i+1) by omega];exact hp) hf (fun x t' h1 h2 h3=>hx (x+1) t' (by omega) (by simpa using h2) (by rw[show j+(x+1)=j+1+x by omega];exact h3));unfold ka;simp only[hr];cases p j<;>simp only[]<;>cases find b t0.2.ws<;>rfl
theorem EO {p q:Nat->Bool}{t:Nat}:∀ {ops:List Oper}{W:Acc D}{j:Nat}{cur:Option AV},(∀ x o,ops[x]?=some o->o.dst=some t->p (j+x)=q (j+x))->js p t ops W j cur=js q t ops W j cur
 |[],W,j,cur,_=>by simp [js]
 |o::ops,[],j,cur,_=>by simp [js]
 |o::ops,x::W,j,cur,h=>by
  have hr:∀ cur,js p t ops W (j+1) cur=js q t ops W (j+1) cur:=fun cur=>EO (fun x o' hx hd=>by
   have:=h (x+1) o' (by simpa using hx) hd;rw[show j+1+x=j+(x+1) by omega];exact this)
  unfold js;simp only[hr];cases hd:o.dst with
  |none=>simp only[];cases p j<;>cases q j<;>rfl
  |some d =>
   simp only[];cases hb:Nat.beq d t with
   |true =>
    have:=h 0 o (by simp) (by rw[hd,ct hb]);rw[kh] at this;rw[this]
   |false=>simp only[];cases p j<;>cases q j<;>rfl
theorem KW {p:Nat->Bool}{t:Nat}:∀ {ops:List Oper}{W:Acc D}{j i:Nat}{cur:Option AV},(∀ x,j+i<=x->p x=false)->js p t ops (W.take i) j cur=js p t ops W j cur
 |[],W,j,i,cur,_=>by simp [js]
 |o::ops,[],j,i,cur,_=>by simp [js]
 |o::ops,x::W,j,0,cur,h=>by
  have:∀ (ops:List Oper) (W:Acc D) (j:Nat),(∀ x,j<=x->p x=false)->js p t ops W j cur=cur:=by
   intro ops
   induction ops with
   |nil=>intro W j _;simp [js]
   |cons o ops ih =>
    intro W j hj;cases W with
    |nil=>simp [js]
    |cons x W =>
     unfold js;rw[hj j (cb _)];exact ih W (j+1) (fun x hx=>hj x (by omega))
  rw[this (o::ops) (x::W) j (fun x hx=>h x (by omega))];simp [js]
 |o::ops,x::W,j,i+1,cur,h=>by
  have hr:∀ cur,js p t ops (W.take i) (j+1) cur=js p t ops W (j+1) cur:=fun cur=>KW (fun x hx=>h x (by omega));rw[Ya];unfold js;simp only[hr]
theorem cfn {p:Nat->Bool}{t i:Nat}{o:Oper}{x:Nat×Out D}:∀ {ops:List Oper}{W:Acc D}{j:Nat}{cur:Option AV},ops[i]?=some o->W[i]?=some x->p (j+i)=true->o.dst=some t->(∀ y o',i<y->ops[y]?=some o'->p (j+y)=true->o'.dst≠some t)->js p t ops W j cur=some x.2.x:=by
 intro ops
 induction ops generalizing i with
 |nil=>intro W j cur h;simp at h
 |cons o0 ops ih =>
  intro W j cur h hw hp hd hx;cases W with
  |nil=>simp at hw
  |cons w0 W =>
   cases i with
   |zero =>
    simp at h hw;subst h;subst hw;unfold js;rw[kh] at hp;rw[hp,hd];simp only[Nat.beq_refl];have:∀ (ops:List Oper) (W:Acc D) (j:Nat) (cur:Option AV),(∀ y o',ops[y]?=some o'->p (j+y)=true->o'.dst≠some t)->js p t ops W j cur=cur:=by
     intro ops
     induction ops with
     |nil=>intro W j cur _;simp [js]
     |cons o ops ih =>
      intro W j cur hj;cases W with
      |nil=>simp [js]
      |cons x W =>
       unfold js;have hr:=ih W (j+1) cur (fun y o' h1 h2=>hj (y+1) o' (by simpa using h1) (by rw[show j+(y+1)=j+1+y by omega];exact h2));cases hpj:p j with
       |true =>
        have:=hj 0 o (by simp) (by simpa using hpj);simp only[];cases hod:o.dst with
        |none=>exact hr
        |some d =>
         simp only[];cases hb:Nat.beq d t with
         |true=>exact absurd (by rw[hod,ct hb]) this
         |false=>exact hr
       |false=>exact hr
    exact this ops W (j+1) _ (fun y o' h1 h2=>hx (y+1) o' (by omega) (by simpa using h1) (by rw[show j+(y+1)=j+1+y by omega];exact h2))
   |succ i =>
    have hr:∀ cur,js p t ops W (j+1) cur=some x.2.x:=fun cur=>ih (by simpa using h) (by simpa using hw) (by rw[show j+1+i=j+(i+1) by omega];exact hp) hd (fun y o' h1 h2 h3=>hx (y+1) o' (by omega) (by simpa using h2) (by rw[show j+(y+1)=j+1+y by omega];exact h3));unfold js;simp only[hr];cases p j<;>simp only[];cases o0.dst with
    |none=>rfl
    |some d=>simp only[];cases Nat.beq d t<;>rfl
theorem Kr {i t:Nat}:∀ {l:List Oper}{j:Nat},KS pres i t l j=false->∀ x o,l[x]?=some o->o.dst=some t->Ul pres i (j+x)=false
 |[],j,_,x,o,h=>by simp at h
 |o0::l,j,hc,x,o,h=>by
  intro hd;unfold KS at hc;cases x with
  |zero =>
   simp at h;subst h;rw[hd] at hc;simp only[Nat.beq_refl] at hc;rw[kh];split at hc
   ·cases hc
   ·rename_i hu;exact hu
  |succ x =>
   have hr:KS pres i t l (j+1)=false:=by
    split at hc
    ·split at hc
     ·split at hc
      ·cases hc
      ·exact hc
     ·exact hc
    ·exact hc
   have:=Kr hr x o (by simpa using h) hd;rw[show j+(x+1)=j+1+x by omega];exact this
theorem cdD {M:cR D}{ws:Ws D}:∀ {l:Ws D},cbA M ws l=true->∀ b,find b l≠none->M b=none/\find b ws=none
 |[],_,b,h=>by simp [jl,cX] at h
 |p::l,hc,b,h=>by
  unfold cbA at hc;split at hc
  ·cases hc
  ·rename_i hM;split at hc
   ·cases hc
   ·rename_i hm;by_cases hb:p.1=b
    ·subst hb;exact⟨hM,cea hm⟩
    ·have hb':Nat.beq p.1 b=false:=by
      cases h:Nat.beq p.1 b with
      |false=>rfl
      |true=>exact absurd (ct h) hb
     simp only[jl,cX,hb'] at h;exact cdD hc b h
theorem cdQ {M:cR D}{ws:Ws D}{i:Nat}:∀ {W:Acc D}{j:Nat},UE pres M ws i W j=true->∀ x t,W[x]?=some t->Ul pres i (j+x)=true->∀ b,find b t.2.ws≠none->M b=none/\find b ws=none
 |[],j,_,x,t,h=>by simp at h
 |t0::W,j,hp,x,t,h=>by
  intro hu;unfold UE at hp;cases x with
  |zero =>
   simp at h;subst h;rw[kh] at hu;split at hp
   ·rename_i he;intro b hb;rw[he] at hb;exact absurd rfl hb
   ·rename_i p l he;rw[hu] at hp;simp only at hp;split at hp
    ·rename_i hc;rw[he];exact cdD hc
    ·cases hp
  |succ x =>
   have hr:UE pres M ws i W (j+1)=true:=by
    split at hp
    ·exact hp
    ·split at hp
     ·split at hp
      ·exact hp
      ·cases hp
     ·exact hp
   exact cdQ hr x t (by simpa using h) (by rw[show j+1+x=j+(x+1) by omega];exact hu)
theorem chz {ops:List Oper}{W:Acc D}{bs:jv}{bm:cR D}{nb:Nat}:∀ {l:List Oper}{W':Acc D}{i:Nat},clG pres ops W bs bm nb l W' i=true->∀ x o t,l[x]?=some o->W'[x]?=some t->(∀ d,o.dst=some d->KS pres (i+x) d ops 0=false)/\UE pres (caN pres W bm nb (i+x) (looks (JR pres ops W bs (i+x)) (cdL pres W bm nb (i+x)) o)) t.2.ws (i+x) W 0=true
 |[],W',i,_,x,o,t,h=>by simp at h
 |o0::l,[],i,_,x,o,t,h=>by intro h2;simp at h2
 |o0::l,t0::W',i,hp,x,o,t,h=>by
  intro h2;unfold clG at hp;split at hp
  ·cases hp
  ·rename_i hd;split at hp
   ·rename_i hpi;cases x with
    |zero =>
     simp at h h2;subst h;subst h2;rw[kh];exact⟨fun d hd'=>by rw[hd'] at hd;exact hd,hpi⟩
    |succ x =>
     have:=chz hp x o t (by simpa using h) (by simpa using h2);rw[show i+(x+1)=i+1+x by omega];exact this
   ·cases hp
theorem ceI {b:Nat}:∀ {W:Acc D}{j:Nat}{m:Ws D},find b (cdr W m)=(match ka (fun _=>true) b W j none with|some o=>some o|none=>find b m)
 |[],j,m=>rfl
 |t::W,j,m=>by
  unfold cdr ka;rw[ceI (j:=j+1),Ew];simp only[];cases hf:find b t.2.ws with
  |none=>rfl
  |some o =>
   simp only[];rw[Jh (cur:=some o)];cases ka (fun _=>true) b W (j+1) none<;>rfl
def cas (dst:Option Tmp) (x:AV) (t:Nat) (cur:Option AV):Option AV :=
 match dst with
 |some d=>match Nat.beq d t with
  |true=>some x
  |false=>cur
 |none=>cur
theorem cmG {nt:Nat}{dst:Option Tmp}{x:AV}{sl sl':List (Nat×AV)}(h:cfU nt dst x sl=some sl') (t:Nat):find t sl'=cas dst x t (find t sl):=by
 unfold cfU at h;unfold cas;cases dst with
 |none=>injection h with h;subst h;rfl
 |some d =>
  simp only at h;split at h
  ·injection h with h;subst h
   rw[Ew];simp only[jl,cX];cases Nat.beq d t<;>rfl
  ·cases h
theorem cbd {nt:Nat}{t:Nat}:∀ {l:List Oper}{W:Acc D}{j:Nat}{sl sl':List (Nat×AV)},UD nt l W sl=some sl'->find t sl'=js (fun _=>true) t l W j (find t sl)
 |[],W,j,sl,sl',h=>by
  simp only[UD,kJ] at h;subst h;simp [js]
 |o::l,[],j,sl,sl',h=>by
  simp only[UD,kJ] at h;subst h;simp [js]
 |o::l,x::W,j,sl,sl',h=>by
  simp only[UD] at h;split at h
  ·rename_i sl1 hs;rw[cbd (j:=j+1) h,cmG hs];unfold cas
   conv=>rhs;unfold js
   simp only[];cases o.dst with
   |none=>rfl
   |some d=>simp only[];cases Nat.beq d t<;>rfl
  ·cases h
theorem cet {nt:Nat}:∀ {l:List Oper}{W:Acc D}{sl sl':List (Nat×AV)},UD nt l W sl=some sl'->∀ (x:Nat) (o:Oper) (t:Nat×Out D),l[x]?=some o->W[x]?=some t->∀ d,o.dst=some d->d<nt
 |[],W,sl,sl',_,x,o,t,h=>by simp at h
 |o0::l,[],sl,sl',_,x,o,t,h=>by intro h2;simp at h2
 |o0::l,x0::W,sl,sl',hp,x,o,t,h=>by
  intro h2 d hd;simp only[UD] at hp;split at hp
  ·rename_i sl1 hs;cases x with
   |zero =>
    simp at h;subst h;unfold cfU at hs;rw[hd] at hs;simp only at hs;split at hs
    ·rename_i hlt;exact yq hlt
    ·cases hs
   |succ x=>exact cet hp x o t (by simpa using h) (by simpa using h2) d hd
  ·cases hp
end
variable {D:Type}
section
variable {S:Stat D}{T:Tab D}{CF YF:cN D}{pres:List Nat}{ops:List Oper}{bs:jv}{bm:cR D}{nb:Nat}
theorem Wa (hF:CF.Mono) (hYF:YF.Mono):∀ {l:List Oper}{i n n':Nat}{acc W:Acc D}{ob:List Prop},ccB S T CF YF pres ops bs bm nb l i n acc=some (W,n',ob)->acc.length=i->
 (∃ r,W=acc++r)/\W.length=i+l.length/\n<=n'/\
 (∀ j o,l[j]?=some o->∃ n1 t,W[i+j]?=some (n1,t)/\ccv S T CF YF (JR pres ops (W.take (i+j)) bs (i+j)) (caN pres (W.take (i+j)) bm nb (i+j) (looks (JR pres ops (W.take (i+j)) bs (i+j)) (cdL pres (W.take (i+j)) bm nb (i+j)) o)) n1 ops o=some t/\n<=n1/\t.n1<=n'/\(jE ob->jE t.ob))/\
 (∀ (j k:Nat) (tj tk:Nat×Out D),i<=j->j<k->W[j]?=some tj->W[k]?=some tk->tj.2.n1<=tk.1)
 |[],i,n,n',acc,W,ob,h,hl=>by
  simp only[ccB,kJ,cr] at h;obtain⟨rfl,rfl,rfl⟩:=h;refine⟨⟨[],by simp⟩,by simp [hl],cb _,fun j o h=>by simp at h,fun j k tj tk hij hjk hj hk=>?_⟩;have:=(List.getElem?_eq_some_iff.1 hj).1;omega
 |o::l,i,n,n',acc,W,ob,h,hl=>by
  simp only[ccB] at h;split at h
  ·rename_i t ht;split at h
   ·rename_i W1 n1 ob1 hrest;injection h with h
    simp only[cr] at h;obtain⟨rfl,rfl,rfl⟩:=h;obtain⟨⟨r,hr⟩,h2,h3,h4,h5⟩:=Wa hF hYF hrest (by simp [hl]);have hle:=chw hF hYF ht;have hWi:W1[i]?=some (n,t):=by
     rw[hr,uM,YL (by omega)];simp [hl]
    have htk:W1.take i=acc:=by
     rw[hr,uM,Zd (by omega),kA (by omega)]
    refine⟨⟨(n,t)::r,by rw[hr];simp⟩,by rw[h2];simp;omega,cA hle h3,?_,?_⟩
    ·intro j o' hj;cases j with
     |zero =>
      simp at hj;subst hj;refine⟨n,t,hWi,?_,cb _,h3,fun ha=>(jE.append ha).1⟩;rw[kh,htk];exact ht
     |succ j =>
      obtain⟨n2,t2,q1,q2,q3,q4,q5⟩:=h4 j o' (by simpa using hj);rw[show i+1+j=i+(j+1) by omega] at q1 q2;exact⟨n2,t2,q1,q2,by omega,q4,fun ha=>q5 (jE.append ha).2⟩
    ·intro j k tj tk hij hjk hj hk;rcases jd i j with hlt|hge
     ·exact h5 j k tj tk hlt hjk hj hk
     ·have:j=i:=by omega
      subst this;rw[hWi] at hj;injection hj with hj
      subst hj;obtain⟨x,rfl⟩:∃ x,k=j+1+x:=⟨k-(j+1),by omega⟩;have hx:x<l.length:=by
       have:=(List.getElem?_eq_some_iff.1 hk).1;omega
      obtain⟨n2,t2,q1,q2,q3,q4,q5⟩:=h4 x l[x] (kb hx);rw[hk] at q1;injection q1 with q1
      subst q1;exact q3
   ·cases h
  ·cases h
end
structure Inv (C : Ctx D) (nt : Nat) (e : Env) (w : World) (ops : Array Oper) (W : Acc D) (base : jv) (ds : List Deferred) (l : Array Bool) (a' : Act) (w' : World) : Prop where
  size : l.size = ops.size
  down : ∀ i, l.getD i false = true → ∀ j, ((jj [] ops.toList).getD i 0).testBit j = true → l.getD j false = true
  defers : a'.defers = ds
  tmps : a'.tmps.size = nt
  ex : ∃ e', Adv e w e' w' ∧ jr C e' w' ∧
    ((∀ b k, e'.ρ b = some k → e.ρ b = some k ∨ ∃ j t, W[j]? = some t ∧ l.getD j false = true ∧ t.1 ≤ b ∧ b < t.2.n1) ∧
     (∀ b k, e'.ν b = some k → e.ν b = some k ∨ ∃ j t, W[j]? = some t ∧ l.getD j false = true ∧ t.1 ≤ b ∧ b < t.2.n1) ∧
     (∀ b k, e'.φ b = some k → e.φ b = some k ∨ ∃ j t, W[j]? = some t ∧ l.getD j false = true ∧ t.1 ≤ b ∧ b < t.2.n1)) ∧
    (∀ b o, ka (fun j => l.getD j false) b W 0 none = some o → kF C e' w' b o) ∧
    (∀ b o, kF C e w b o → ka (fun j => l.getD j false) b W 0 none = none → kF C e' w' b o) ∧
    jD e' a' (fun t => js (fun j => l.getD j false) t ops.toList W 0 (base t))
theorem kU {l:Array Bool}{i j:Nat}(hi:i<l.size):(l.setIfInBounds i true).getD j false=if j=i then true else l.getD j false:=by
 simp only[uX,ccu];by_cases h:j=i
 ·subst h;simp [hi]
 ·rw[cg (fun e=>h e.symm),cg h]
section
variable {F:Fence}{m:Nat}
variable {C:Ctx D}{e0 e:Env}{w0 w w':World}{a:Act}{T:Tab D}{CF YF:cN D}{n0 nt:Nat}{base:cR D}{Q:Exit->Act->World->Prop}{ops:Array Oper}
theorem cjh (hW:Wd F) (hC:C.Ok) (hT:T.Ok C) (hF:CF.Ok C) (hFm:CF.Mono) (hY:zQ C YF) (hYm:YF.Mono) (hb:jm C e0 w0 base) {rid:Nat}{st st':St D}{ob:List Prop}(h:Zw C.toStat T CF YF nt base ops.toList st=some (st',ob)) (ho:jE ob) (hf:um n0 st'.nb e0)
 (hQ:∀ a w,Sat C nt e0 w0 n0 st' a w->Q .normal a w) {a:Act} {w:World} (hs:Sat C nt e0 w0 n0 st a w):(Code.region rid ops true).wpIn F m C.P Q a w:=by
 unfold Zw at h;split at h
 ·cases h
 rename_i hord;split at h
 ·cases h
 rename_i W n ob' hgo;split at h
 ·cases h
 rename_i hpairs;split at h
 rotate_left
 ·cases h
 rename_i sl hput;injection h with h
 injection h with h h'
 subst h;subst h';obtain⟨_,hWl,hnn,hWs,hdis⟩:=Wa hFm hYm hgo rfl;simp only[je] at hWl hWs;obtain⟨⟨e,hL,hV,rs,hdf,hmk⟩,hsz⟩:=hs;have hlen:ops.toList.length=ops.size:=by simp
 have hbd:Below w.heap.size w { w with drawn:=w.drawn+1 }:=⟨rfl,rfl,rfl,cb _,fun _ _=>rfl⟩;have hLd:ut C e0 w0 n0 st.nb st.m e { w with drawn:=w.drawn+1 }:=by
  have:=hL.trans (ut.below hL.good hbd st.nb);exact this
 generalize hwd:({ w with drawn:=w.drawn+1 }:World)=wd at hLd;have hM:=uD hb hLd;have hFree:um st.nb n e:=(hf.new (hLd.new.mono (cb _) (cb _)) hLd.le);refine wpIn_region_any hC.mixed ?_;rw[hwd];refine any_inv (Inv C nt e wd ops W (fun t=>find t st.sl) a.defers) ?_ ?_ ops.size _ a _ (by simp) (by unfold cgC;simp) ?_
 ·-- a step
  intro l a1 w1 i hls hI hrdy;obtain⟨hsz1,hdown,hdf1,htm1,e1,hadv,hgood,⟨hρ,hν,hφ⟩,hw1,hk1,hs1⟩:=hI;have hfalse':=Uy hrdy;have hil:i<l.size:=by
   rcases jd i l.size with h|h
   ·exact h
   ·simp [Zp h] at hfalse'
  have hfalse:l.getD i false=false:=by simp [uX,hfalse']
  obtain⟨_,o,hio,hr⟩:=mem_ready.1 hrdy;have hiol:ops.toList[i]?=some o:=by simpa using hio
  obtain⟨ni,t,hWi,hstep,hni,hti,hobt⟩:=hWs i o hiol;obtain⟨hclash,hpi⟩:=chz hpairs i o (ni,t) hiol hWi;simp only[je] at hclash hpi;have hpi:=fun x t' h1 h2=>cdQ hpi x t' h1 (by simpa using h2);have hilen:i<ops.toList.length:=by omega
  have hpre:∀ j,((jj [] ops.toList).getD i 0).testBit j=true->l.getD j false=true:=by
   intro j hj;obtain⟨ed,h4,h5,h6⟩:=CL ops.toList [] i o hiol j (by simpa using hj);have h7:=hr ed (by simpa using h4) h5;rcases h6 with rfl|h6
   ·exact h7
   ·exact hdown ed.on h7 j h6
  have hpost:∀ j,((jj [] ops.toList).getD j 0).testBit i=true->l.getD j false=false:=by
   intro j hj;cases hlj:l.getD j false with
   |false=>rfl
   |true =>
    have:=hdown j hlj i hj;rw[hfalse] at this;cases this
  have hpii:∀ x,i<=x->((jj [] ops.toList).getD i 0).testBit x=false:=by
   intro x hx;cases hb:((jj [] ops.toList).getD i 0).testBit x with
   |false=>rfl
   |true=>have:=pre_lt hord i hilen x hb;omega
  have hcong:∀ j,Ul (jj [] ops.toList) i j=false->((jj [] ops.toList).getD i 0).testBit j=l.getD j false:=by
   intro j hu;rcases chD hu with h|h|h
   ·subst h;rw[hfalse,hpii i (cb _)]
   ·rw[h,hpre j h]
   ·rw[hpost j h];cases hb:((jj [] ops.toList).getD i 0).testBit j with
    |false=>rfl
    |true =>
     have h1:=hpre j hb;rw[hpost j h] at h1;cases h1
  have hVi:jD e1 a1 (JR (jj [] ops.toList) ops.toList (W.take i) (fun t=>find t st.sl) i):=by
   intro tt x hx;unfold JR at hx;split at hx
   ·cases hx
   ·rename_i hcl;rw[KW (fun x hx=>hpii x (by omega))] at hx;rw[EO (q:=fun j=>l.getD j false) (fun x o' h1 h2=>by
     have:=Kr hcl x o' h1 h2;rw[je] at this ⊢;exact hcong x this)] at hx
    exact hs1 tt x hx
  have hraw:cdL (jj [] ops.toList) (W.take i) (over base st.m) st.nb i=cdL (jj [] ops.toList) W (over base st.m) st.nb i:=by
   funext b;exact cbe (fun x hx=>hpii x (by omega))
  have hvs:JR (jj [] ops.toList) ops.toList (W.take i) (fun t=>find t st.sl) i=JR (jj [] ops.toList) ops.toList W (fun t=>find t st.sl) i:=by
   funext t;unfold JR;split
   ·rfl
   ·exact KW (fun x hx=>hpii x (by omega))
  have hMi:jm C e1 w1 (caN (jj [] ops.toList) (W.take i) (over base st.m) st.nb i (looks (JR (jj [] ops.toList) ops.toList (W.take i) (fun t=>find t st.sl) i) (cdL (jj [] ops.toList) (W.take i) (over base st.m) st.nb i) o)):=by
   intro b ob1 hob;rw[hvs,hraw] at hob;have hnone:caN (jj [] ops.toList) W (over base st.m) st.nb i (looks (JR (jj [] ops.toList) ops.toList W (fun t=>find t st.sl) i) (cdL (jj [] ops.toList) W (over base st.m) st.nb i) o) b=some ob1:=by
    unfold caN at hob ⊢
    rwa [hraw] at hob
   have hcl:∀ x t',W[x]?=some t'->find b t'.2.ws≠none->((jj [] ops.toList).getD i 0).testBit (0+x)=l.getD (0+x) false:=by
    intro x t' h1 h2;rw[je];cases hu:Ul (jj [] ops.toList) i x with
    |false=>exact hcong x hu
    |true =>
     have:=(hpi x t' h1 hu b h2).1;rw[hnone] at this;cases this
   have hg:ka ((jj [] ops.toList).getD i 0).testBit b W 0 (match Nat.ble st.nb b with|true=>none|false=>over base st.m b)=some ob1:=by
    unfold caN cdL at hnone;split at hnone
    ·rename_i ty cs z hq;split at hnone
     ·cases hnone
     ·injection hnone with hnone;subst hnone;exact hq
    ·rename_i ty z n g hq;split at hnone
     ·cases hnone
     ·injection hnone with hnone;subst hnone;exact hq
    ·rename_i es ck hq;split at hnone
     ·cases hnone
     ·injection hnone with hnone;subst hnone;exact hq
    ·cases hnone
    ·exact hnone
   rw[Jh] at hg;split at hg
   ·rename_i o2 ho2;injection hg with hg;subst hg
    rw[CT (q:=fun j=>l.getD j false) hcl] at ho2;exact hw1 b _ ho2
   ·rename_i hn;rw[CT (q:=fun j=>l.getD j false) hcl] at hn;split at hg
    ·cases hg
    ·exact hk1 b ob1 (hM b ob1 hg) hn
  have hfree:um ni t.n1 e1:=by
   intro b h1 h2;obtain⟨q1,q2,q3⟩:=hFree b (by omega) (by omega);have hno:¬ ∃ j t',W[j]?=some t'/\l.getD j false=true/\t'.1<=b/\b<t'.2.n1:=by
    rintro⟨j,t',r1,r2,r3,r4⟩;rcases KH j i with hj|hj|hj
    ·have:=hdis j i t' (ni,t) (ju _) hj r1 hWi;simp only at this;omega
    ·subst hj;rw[hfalse] at r2;cases r2
    ·have:=hdis i j (ni,t) t' (ju _) hj hWi r1;simp only at this;omega
   refine⟨?_,?_,?_⟩
   ·cases hx:e1.ρ b with
    |none=>rfl
    |some x=>rcases hρ b x hx with h|h;(rw[q1] at h;cases h);exact absurd h hno
   ·cases hx:e1.ν b with
    |none=>rfl
    |some x=>rcases hν b x hx with h|h;(rw[q2] at h;cases h);exact absurd h hno
   ·cases hx:e1.φ b with
    |none=>rfl
    |some x=>rcases hφ b x hx with h|h;(rw[q3] at h;cases h);exact absurd h hno
  have hres:=cho (F:=F) (m:=m) (Q:=Q) (K:=fun a' w'=>Inv C nt e wd ops W (fun t=>find t st.sl) a.defers (l.setIfInBounds i true) a' w') hW hC hT hF hY hVi hMi hgood hstep hfree (hobt ho) (fun v w2 hD=>by
   obtain⟨e2,hL2,hx2⟩:=hD;have hrng:∀ b,(ni<=b/\b<t.n1)->∃ j t',W[j]?=some t'/\(l.setIfInBounds i true).getD j false=true/\t'.1<=b/\b<t'.2.n1:=fun b hb=>⟨i,(ni,t),hWi,by rw[kU hil,co rfl],hb.1,hb.2⟩;have hkeep:∀ b,(∃ j t',W[j]?=some t'/\l.getD j false=true/\t'.1<=b/\b<t'.2.n1)->∃ j t',W[j]?=some t'/\(l.setIfInBounds i true).getD j false=true/\t'.1<=b/\b<t'.2.n1:=by
    rintro b ⟨j,t',r1,r2,r3⟩;refine⟨j,t',r1,?_,r3⟩;rw[kU hil];split
    ·rfl
    ·exact r2
   have hgs:∀ b o2,find b t.ws=some o2->ka (fun j=>(l.setIfInBounds i true).getD j false) b W 0 none=some o2:=by
    intro b o2 hfb;refine cis hWi (by simp only[je];rw[kU hil,co rfl]) hfb ?_;intro x t' hx hWx hlx;rw[je,kU hil,cg (by omega)] at hlx;cases hfx:find b t'.2.ws with
    |none=>rfl
    |some o3 =>
     have hu:Ul (jj [] ops.toList) i x=true:=by
      refine cjt (by omega) (hpii x (by omega)) ?_;cases hb:((jj [] ops.toList).getD x 0).testBit i with
      |false=>rfl
      |true=>rw[hpost x hb] at hlx;cases hlx
     have:=(hpi x t' hWx hu b (by rw[hfx];simp)).2;rw[hfb] at this;cases this
   have hgn:∀ b,find b t.ws=none->ka (fun j=>(l.setIfInBounds i true).getD j false) b W 0 none=ka (fun j=>l.getD j false) b W 0 none:=by
    intro b hfb;refine CT (fun x t' h1 h2=>?_);simp only[je];rw[kU hil];split
    ·rename_i hxi;subst hxi;rw[hWi] at h1;injection h1 with h1
     subst h1;exact absurd hfb h2
    ·rfl
   refine⟨by simpa using hsz1,?_,by rw[ue,hdf1],by rw[uI,htm1],e2,hadv.trans hL2.adv,hL2.good,⟨?_,?_,?_⟩,?_,?_,?_⟩
   ·intro x hxl j hj;rw[kU hil] at hxl ⊢;by_cases hji:j=i
    ·rw[co hji]
    ·rw[cg hji];by_cases hxi:x=i
     ·subst hxi;exact hpre j hj
     ·rw[cg hxi] at hxl;exact hdown x hxl j hj
   ·intro b k hbk;rcases hL2.new.ρ b k hbk with h|h
    ·exact(hρ b k h).imp id (hkeep b)
    ·exact .inr (hrng b h)
   ·intro b k hbk;rcases hL2.new.ν b k hbk with h|h
    ·exact(hν b k h).imp id (hkeep b)
    ·exact .inr (hrng b h)
   ·intro b k hbk;rcases hL2.new.φ b k hbk with h|h
    ·exact(hφ b k h).imp id (hkeep b)
    ·exact .inr (hrng b h)
   ·intro b o2 hob;cases hfb:find b t.ws with
    |some o3 =>
     rw[hgs b o3 hfb] at hob;injection hob with hob;subst hob
     exact hL2.wrote b _ hfb
    |none =>
     rw[hgn b hfb] at hob;exact hL2.kept b o2 (hw1 b o2 hob) hfb
   ·intro b o2 hob hn;cases hfb:find b t.ws with
    |some o3 =>
     rw[hgs b o3 hfb] at hn;cases hn
    |none =>
     rw[hgn b hfb] at hn;exact hL2.kept b o2 (hk1 b o2 hob hn) hfb
   ·intro tt x hx;have hx:js (fun j=>(l.setIfInBounds i true).getD j false) tt ops.toList W 0 (find tt st.sl)=some x:=hx;by_cases hd:o.dst=some tt
    ·have:=cfn (p:=fun j=>(l.setIfInBounds i true).getD j false) (j:=0) (cur:=find tt st.sl) hiol hWi (by simp only[je];rw[kU hil,co rfl]) hd (fun y o' h1 h2 h3 h4=>by
      rw[je,kU hil,cg (by omega)] at h3;have hu:=Kr (hclash tt hd) y o' h2 h4;rw[je] at hu;have h5:=hcong y hu;rw[h3,hpii y (by omega)] at h5;cases h5)
     rw[this] at hx;injection hx with hx;subst hx
     have hlt:=cet hput i o (ni,t) hiol hWi tt hd;rw[hd];refine⟨v,?_,hx2⟩;have:tt<a1.tmps.size:=by rw[htm1];exact hlt
     simp [Act.put,this]
    ·rw[EO (q:=fun j=>l.getD j false) (fun y o' h1 h2=>by
      rw[je,kU hil];split
      ·rename_i hyi;subst hyi;rw[hiol] at h1;injection h1 with h1
       subst h1;exact absurd h2 hd
      ·rfl)] at hx
     obtain⟨u,h1,h2⟩:=hs1.ext hL2.adv.ext tt x hx;refine⟨u,?_,h2⟩;cases hdd:o.dst with
     |none=>exact h1
     |some d =>
      have:d≠tt:=fun h=>hd (by rw[hdd,h]);simp [Act.put,this,h1])
  unfold wpOpIn;simp only[hio];split at hres
  ·rename_i hw;rw[co hw];exact hres
  ·rename_i hw;rw[cg hw];exact⟨fun f _=>hW.fn f,hres⟩
 ·-- the end
  intro l a1 w1 hls hI hrdy;obtain⟨hsz1,hdown,hdf1,htm1,e1,hadv,hgood,⟨hρ,hν,hφ⟩,hw1,hk1,hs1⟩:=hI;have hall:=coX hls (fun i o hio ed hed hbi=>by
   have:=yQ hord i o (by simpa using hio) ed hed hbi;simpa using this) hrdy
  have hall':∀ i,i<ops.size->l.getD i false=true:=fun i hi=>by
   simp [uX,hall i hi]
  have hWlt:∀ x t,W[x]?=some t->x<ops.size:=fun x t hx=>by
   have:=(List.getElem?_eq_some_iff.1 hx).1;omega
  have hg:∀ b,ka (fun j=>l.getD j false) b W 0 none=ka (fun _=>true) b W 0 none:=fun b=>CT (fun x t hx _=>by
   simp only[je];exact hall' x (hWlt x t hx))
  have hrng:∀ b,(∃ j t,W[j]?=some t/\l.getD j false=true/\t.1<=b/\b<t.2.n1)->st.nb<=b/\b<n:=by
   rintro b ⟨j,t,r1,r2,r3,r4⟩;have hj:j<ops.toList.length:=by have:=hWlt j t r1;omega
   obtain⟨n2,t2,q1,q2,q3,q4,q5⟩:=hWs j _ (kb hj);rw[r1] at q1;injection q1 with q1
   subst q1;simp only at r3 r4;exact⟨by omega,by omega⟩
  have hcat:∀ b,find b (cdr W ([]:Ws D))=ka (fun _=>true) b W 0 none:=fun b=>by
   rw[ceI (j:=0)];cases ka (fun _=>true) b W 0 none<;>rfl
  refine hQ a1 w1 ⟨⟨e1,hLd.trans (n2:=n) ⟨hnn,hadv,⟨fun b k h=>(hρ b k h).imp id (hrng b),fun b k h=>(hν b k h).imp id (hrng b),fun b k h=>(hφ b k h).imp id (hrng b)⟩,hgood,fun b o h=>?_,fun b o h1 h2=>?_⟩,?_,rs,hdf1.trans hdf,hmk.ext hadv.ext⟩,htm1⟩
  ·rw[hcat,← hg] at h;exact hw1 b o h
  ·rw[hcat,← hg] at h2;exact hk1 b o h1 h2
  ·intro tt x hx;have hx:find tt sl=some x:=hx;rw[cbd (j:=0) hput,← EO (p:=fun j=>l.getD j false) (fun y o' h1 h2=>by
    have:=(List.getElem?_eq_some_iff.1 h1).1;simp only[je];exact hall' y (by omega))] at hx
   exact hs1 tt x hx
 ·-- the beginning
  have hf0:∀ j,(Array.replicate ops.size false).getD j false=false:=by
   intro j;simp only[uX,lemZ9];split<;>rfl
  have hfun:(fun j=>(Array.replicate ops.size false).getD j false)=fun _=>false:=funext hf0;have hg0:∀ b,ka (fun j=>(Array.replicate ops.size false).getD j false) b W 0 none=none:=by
   intro b;rw[hfun];have:∀ (W:Acc D) (j:Nat),ka (fun _=>false) b W j none=none:=by
    intro W
    induction W with
    |nil=>intro j;rfl
    |cons t W ih=>intro j;unfold ka;exact ih (j+1)
   exact this W 0
  have hs0:∀ (tt:Nat) (cur:Option AV),js (fun j=>(Array.replicate ops.size false).getD j false) tt ops.toList W 0 cur=cur:=by
   intro tt cur;rw[hfun];have:∀ (ol:List Oper) (W:Acc D) (j:Nat),js (fun _=>false) tt ol W j cur=cur:=by
    intro ol
    induction ol with
    |nil=>intro W j;simp [js]
    |cons o ol ih =>
     intro W j;cases W with
     |nil=>simp [js]
     |cons t W=>unfold js;exact ih W (j+1)
   exact this _ W 0
  refine⟨by simp,fun i hi=>(by rw[hf0] at hi;cases hi),rfl,hsz,e,Adv.refl _ _,hLd.good,⟨fun _ _ h=>.inl h,fun _ _ h=>.inl h,fun _ _ h=>.inl h⟩,fun b o h=>(by rw[hg0] at h;cases h),fun b o h _=>h,?_⟩;intro tt x hx;have hx:js (fun j=>(Array.replicate ops.size false).getD j false) tt ops.toList W 0 (find tt st.sl)=some x:=hx;rw[hs0] at hx;exact hV tt x hx
end
end Pe
end Go.Proofs.YtdopipkmcnkdjaaGreatDoor
