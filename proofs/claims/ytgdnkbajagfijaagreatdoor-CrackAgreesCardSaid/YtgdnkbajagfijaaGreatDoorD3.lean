/- Part 3. -/
import Derived.Test.YtgdnkbajagfijaaGreatDoorD2
set_option linter.all false
noncomputable section

namespace Go.Proofs.YtgdnkbajagfijaaGreatDoor
open Go Go.RowKit Go.Proofs
namespace Pe
variable {D:Type}
abbrev Gu:=List (Value×A1×Nat)
def uJ (es:Gu):List MapEntry:=es.map fun p=>⟨p.1,undef,p.2.2⟩
def caC (P:Program) (kt:TypeId) (k:Value) (es:Gu):Option (Option Nat) :=
 match ev P (Instr.findKey kt k (uJ es)) with
 |some (some p)=>some (some p.1)
 |some none=>some none
 |none=>none
def nthE:Gu->Nat->Option (Value×A1×Nat)
 |[],_=>none
 |p::_,0=>some p
 |_::l,n+1=>nthE l n
def setE (x:Value×A1×Nat):Gu->Nat->Gu
 |[],_=>[]
 |_::l,0=>x::l
 |p::l,n+1=>p::setE x l n
def delE:Gu->Nat->Gu
 |[],_=>[]
 |_::l,0=>l
 |p::l,n+1=>p::delE l n
def cgX:Gu->Bool
 |[]=>true
 |_::_=>false
def cff (M:cL D):Option AV->Option (Nat×Gu×Nat)
 |some (.val (.one (.fn b)))=>match M b with
  |some (.mp es ck)=>some (b,es,ck)
  |_=>none
 |_=>none
def chT (P:Program) (t:Nat):Option (Nat×Nat) :=
 match P.underlying t with
 |some (.map k e)=>some (k,e)
 |_=>none
def zeroA (P:Program) (t:Nat):Option A1 :=
 match P.info? t with
 |some i=>match i.zero with
  |some (.agg cs)=>some (.agg (cs.toList.map .lit))
  |some v=>some (.one (.lit v))
  |none=>none
 |none=>none
def cfK:Option Unit->Bool
 |some _=>true
 |none=>false
def ckW (S:Stat D) (n0 t:Nat) (m:Option (Nat×Gu×Nat)) (i:Option Value) (ok:Bool):Option (Out D) :=
 match m,i,chT S.P t with
 |some (_,es,_),some k,some (kt,el)=>match cfK (ev S.P (Instr.checkKey (cgX es) 10000 kt k)) with
  |true=>match caC S.P kt k es with
   |some (some j)=>match nthE es j with
    |some p=>match ok with
     |true=>out n0 (.tup [p.2.1,.one (.lit (.bool true))])
     |false=>out n0 (.val p.2.1)
    |none=>none
   |some none=>match zeroA S.P el with
    |some z=>match ok with
     |true=>out n0 (.tup [z,.one (.lit (.bool false))])
     |false=>out n0 (.val z)
    |none=>none
   |none=>none
  |false=>none
 |_,_,_=>none
def mPut (S:Stat D) (n0 t:Nat) (m:Option (Nat×Gu×Nat)) (i:Option Value) (y:Option AV):Option (Out D) :=
 match m,i,chT S.P t,y with
 |some (b,es,ck),some k,some (kt,_),some (.val x)=>match cfK (ev S.P (Instr.checkKey false 10000 kt k)) with
  |true=>match caC S.P kt k es with
   |some (some j)=>match nthE es j with
    |some p=>match Instr.sameBits 10000 p.1 k with
     |true=>some ⟨Ku,[(b,.mp (setE (k,x,p.2.2) es j) ck)],n0,[]⟩
     |false=>none
    |none=>none
   |some none=>some ⟨Ku,[(b,.mp (es++[(k,x,ck)]) (ck+1))],n0,[]⟩
   |none=>none
  |false=>none
 |_,_,_,_=>none
def mDel (S:Stat D) (n0 t:Nat) (m:Option (Nat×Gu×Nat)) (i:Option Value):Option (Out D) :=
 match m,i,chT S.P t with
 |some (b,es,ck),some k,some (kt,_)=>match cfK (ev S.P (Instr.checkKey (cgX es) 10000 kt k)) with
  |true=>match caC S.P kt k es with
   |some (some j)=>some ⟨.tup [],[(b,.mp (delE es j) ck)],n0,[]⟩
   |some none=>out n0 (.tup [])
   |none=>none
  |false=>none
 |_,_,_=>none
def cgI (V:jp):List Operand->Option (List Value)
 |[]=>some []
 |x::l=>match KL? (cD V x),cgI V l with
  |some v,some vs=>some (v::vs)
  |_,_=>none
theorem chg {e:Env}{a:Act}{V:jp}(hV:jw e a V):∀ {l:List Operand}{vs:List Value},cgI V l=some vs->l.map a.eval=vs
 |[],vs,h=>by simp [cgI] at h;subst h;rfl
 |x::l,vs,h=>by
  unfold cgI at h;split at h
  ·rename_i v us h1 h2;injection h with h;subst h
   rw[jN,Gn hV h1,chg hV h2]
  ·cases h
def cdO (S:Stat D) (V:jp) (M:cL D) (n0:Nat) (o:Oper):Option (Out D) :=
 match o.op with
 |.makeMap _ none=>some ⟨.val (.one (.fn n0)),[(n0,.mp [] 0)],n0+1,[]⟩
 |.lookup t x i ok=>ckW S n0 t (cff M (cD V x)) (KL? (cD V i)) ok
 |.mapUpdate t x i y=>mPut S n0 t (cff M (cD V x)) (KL? (cD V i)) (cD V y)
 |.insert t x i y=>mPut S n0 t (cff M (cD V x)) (KL? (cD V i)) (cD V y)
 |.call c=>match c.callee with
  |.builtin .delete=>match c.args.toList,c.argTypes.toList with
   |[x,i],t::_=>mDel S n0 t (cff M (cD V x)) (KL? (cD V i))
   |_,_=>none
  |.builtin .min=>match cgI V c.args.toList with
   |some vs=>uN S.P n0 (Builtin.min_ c.argTypes o.type vs.toArray)
   |none=>none
  |_=>none
 |_=>none
theorem ckH {α β:Type}{P:Program}{f:α->Sem β}{r:β}:∀ {s:Sem α},ev P (s >>= f)=some r->∃ a,ev P s=some a/\ev P (f a)=some r:=by
 intro s
 induction s with
 |pure a=>intro h;exact⟨a,rfl,h⟩
 |program k ih=>intro h;exact ih P h
 |mark m k ih=>intro h;exact ih h
 |_=>intro h;cases h
section
variable {P:Program}{e:Env}
def Same (l:List MapEntry) (i0:Nat):Option (Nat×Value)->Option (Nat×Value)->Prop
 |none,r=>r=none
 |some p,r=>∃ j x,p.1=i0+j/\l[j]?=some x/\r=some (p.1,x.val)
theorem Same.next {x:MapEntry}{l:List MapEntry}{i0:Nat}{r r':Option (Nat×Value)}(h:Same l (i0+1) r r'):Same (x::l) i0 r r':=by
 cases r with
 |none=>exact h
 |some p =>
  obtain⟨j,y,h1,h2,h3⟩:=h;exact⟨j+1,y,by omega,by simpa using h2,h3⟩
theorem YW {kind:TypeDesc}{k:Value}:∀ {es:Gu}{l:List MapEntry}(i0:Nat),kf e es l->
 (Instr.findNow kind k (uJ es) i0=none/\Instr.findNow kind k l i0=none)\/∃ r r',Instr.findNow kind k (uJ es) i0=some r/\Instr.findNow kind k l i0=some r'/\Same l i0 r r'
 |[],l,i0,h=>by
  rw[show l=[] from h];exact .inr ⟨none,none,rfl,rfl,rfl⟩
 |p::es,l,i0,⟨v,l',h1,h2,h3⟩=>by
  subst h1;have ih:=YW (kind:=kind) (k:=k) (i0+1) h3;simp only[uJ,jN,Instr.findNow];cases hs:Instr.sameNow kind k p.1 with
  |none=>exact .inl ⟨rfl,rfl⟩
  |some b =>
   cases b with
   |true=>exact .inr ⟨_,_,rfl,rfl,0,_,rfl,rfl,rfl⟩
   |false =>
    rcases ih with⟨q1,q2⟩|⟨r,r',q1,q2,q3⟩
    ·exact .inl ⟨q1,q2⟩
    ·exact .inr ⟨r,r',q1,q2,q3.next⟩
theorem Ua {kt:TypeId}{k:Value}:∀ {es:Gu}{l:List MapEntry}(i0:Nat) {r:Option (Nat×Value)},kf e es l->ev P (Instr.findAsking kt k (uJ es) i0)=some r->
 ∃ r',(∀ w,(Instr.findAsking kt k l i0).run P w=.ok r' w)/\Same l i0 r r'
 |[],l,i0,r,h,hr=>by
  rw[show l=[] from h];injection hr with hr;subst hr
  exact⟨none,fun _=>rfl,rfl⟩
 |p::es,l,i0,r,⟨v,l',h1,h2,h3⟩,hr=>by
  subst h1;simp only[uJ,jN,Instr.findAsking] at hr;obtain⟨b,q1,q2⟩:=ckH hr;simp only[Instr.findAsking];have q3:∀ w,(Op.equal kt k p.1).run P w=.ok b w:=fun w=>KD q1 w;cases b with
  |true =>
   injection q2 with q2;subst q2
   exact⟨some (i0,v),fun w=>by simp [q3],0,_,rfl,rfl,rfl⟩
  |false =>
   obtain⟨r',q4,q5⟩:=Ua (i0+1) h3 q2;exact⟨r',fun w=>by simp [q3,q4],q5.next⟩
theorem KS {kt:TypeId}{k:Value}{es:Gu}{l:List MapEntry}{r:Option (Nat×Value)}(h:kf e es l) (hr:ev P (Instr.findKey kt k (uJ es))=some r) :
 ∃ r',(∀ w,(Instr.findKey kt k l).run P w=.ok r' w)/\Same l 0 r r':=by
 unfold Instr.findKey at hr ⊢;obtain⟨d,q1,q2⟩:=ckH hr;have q3:∀ w,(underlying kt).run P w=.ok d w:=fun w=>KD q1 w;rcases YW (kind:=d) (k:=k) 0 h with⟨p1,p2⟩|⟨r1,r2,p1,p2,p3⟩
 ·rw[p1] at q2;obtain⟨r',p3,p4⟩:=Ua 0 h q2;exact⟨r',fun w=>by simp [q3,p2,p3],p4⟩
 ·rw[p1] at q2;injection q2 with q2;subst q2
  exact⟨r2,fun w=>by simp [q3,p2],p3⟩
theorem Yh {kt:TypeId}{k:Value}{es:Gu}{l:List MapEntry}(h:kf e es l) (hr:caC P kt k es=some none) (w:World):(Instr.findKey kt k l).run P w=.ok none w:=by
 unfold caC at hr;split at hr
 ·cases hr
 ·rename_i hv;obtain⟨r',q1,q2⟩:=KS h hv;rw[q1,show r'=none from q2]
 ·cases hr
theorem kf.get:∀ {es:Gu}{l:List MapEntry}{j:Nat}{p:Value×A1×Nat},kf e es l->nthE es j=some p->∃ v,l[j]?=some ⟨p.1,v,p.2.2⟩/\p.2.1.is e v
 |[],l,j,p,h,hp=>by simp [nthE] at hp
 |q::es,l,0,p,⟨v,l',h1,h2,h3⟩,hp=>by
  injection hp with hp;subst hp;subst h1
  exact⟨v,rfl,h2⟩
 |q::es,l,j+1,p,⟨v,l',h1,h2,h3⟩,hp=>by
  subst h1;obtain⟨u,q1,q2⟩:=kf.get h3 hp;exact⟨u,by simpa using q1,q2⟩
theorem cck {kt:TypeId}{k:Value}{es:Gu}{l:List MapEntry}{j:Nat}{p:Value×A1×Nat}(h:kf e es l) (hr:caC P kt k es=some (some j)) (hp:nthE es j=some p) :
 ∃ v,(∀ w,(Instr.findKey kt k l).run P w=.ok (some (j,v)) w)/\l[j]?=some ⟨p.1,v,p.2.2⟩/\p.2.1.is e v:=by
 unfold caC at hr;split at hr
 ·rename_i x hv;injection hr with hr;injection hr with hr;subst hr
  obtain⟨r',q1,j,y,q2,q3,q4⟩:=KS h hv;obtain⟨v,q5,q6⟩:=h.get hp;have hj:x.1=j:=by omega
  rw[hj,q3] at q5;injection q5 with q5
  refine⟨v,fun w=>?_,?_,q6⟩
  ·rw[q1,q4,q5]
  ·rw[hj,q3,q5]
 ·cases hr
 ·cases hr
theorem kf.empty {es:Gu}{l:List MapEntry}(h:kf e es l):l.isEmpty=cgX es:=by
 cases es with
 |nil=>rw[show l=[] from h];rfl
 |cons p es=>obtain⟨v,l',h1,_⟩:=h;rw[h1];rfl
theorem kf.snoc {k:Value}{x:A1}{b:Nat}{v:Value}(hx:x.is e v):∀ {es:Gu}{l:List MapEntry},kf e es l->kf e (es++[(k,x,b)]) (l++[⟨k,v,b⟩])
 |[],l,h=>by rw[show l=[] from h];exact⟨v,[],rfl,hx,rfl⟩
 |p::es,l,⟨u,l',h1,h2,h3⟩=>by subst h1;exact⟨u,_,rfl,h2,h3.snoc hx⟩
theorem kf.set {k:Value}{x:A1}{b:Nat}{v:Value}(hx:x.is e v):∀ {es:Gu}{l:List MapEntry}{j:Nat},kf e es l->kf e (setE (k,x,b) es j) (l.set j ⟨k,v,b⟩)
 |[],l,j,h=>by rw[show l=[] from h];rfl
 |p::es,l,0,⟨u,l',h1,h2,h3⟩=>by subst h1;exact⟨v,_,rfl,hx,h3⟩
 |p::es,l,j+1,⟨u,l',h1,h2,h3⟩=>by subst h1;exact⟨u,_,rfl,h2,h3.set hx⟩
theorem kf.del:∀ {es:Gu}{l:List MapEntry}{j:Nat},kf e es l->kf e (delE es j) (l.eraseIdx j)
 |[],l,j,h=>by rw[show l=[] from h];rfl
 |p::es,l,0,⟨u,l',h1,h2,h3⟩=>by subst h1;exact h3
 |p::es,l,j+1,⟨u,l',h1,h2,h3⟩=>by subst h1;exact⟨u,_,rfl,h2,h3.del⟩
theorem cdi {t k el:Nat}(h:chT P t=some (k,el)):P.underlying t=some (.map k el):=by
 unfold chT at h;split at h
 ·rename_i hm;injection h with h;simp only[cr] at h
  rw[hm,h.1,h.2]
 ·cases h
theorem cpf {t:Nat}{z:A1}(h:zeroA P t=some z) (e:Env):∃ v,z.is e v/\∀ w,(zeroValue t).run P w=.ok v w:=by
 unfold zeroA at h;split at h
 ·rename_i i hi;split at h
  ·rename_i cs hz;injection h with h;subst h
   refine⟨.agg cs,⟨cs.toList,yU e _,by simp⟩,fun w=>by simp [zeroValue,typeInfo,hi,hz]⟩
  ·rename_i v _ hz;injection h with h;subst h
   exact⟨v,rfl,fun w=>by simp [zeroValue,typeInfo,hi,hz]⟩
  ·cases h
 ·cases h
theorem ZB {s:Sem Unit}(h:cfK (ev P s)=true) (w:World):s.run P w=.ok () w:=by
 cases hs:ev P s with
 |none=>rw[hs] at h;cases h
 |some u=>exact KD hs w
end
section
variable {F:Fence}{m:Nat}
variable {C:Ctx D}{e:Env}{a:Act}{w:World}{V:jp}{M:cL D}{T:Tab D}{n0:Nat}{K:Act->World->Prop}{Q:Exit->Act->World->Prop}{o:Oper}{t:Out D}
theorem cfj (hV:jw e a V) (hM:jk C e w M) {x:Operand}{b:Nat}{es:Gu}{ck:Nat}(h:cff M (cD V x)=some (b,es,ck)) :
 ∃ k arr,e.ρ b=some k/\e.al b=true/\e.φ b=some (.map (some k))/\w.heap[k]?=some (.map arr ck)/\kf e es arr.toList/\a.eval x=.map (some k):=by
 unfold cff at h;split at h
 ·rename_i b' hx;split at h
  ·rename_i es' ck' hb;injection h with h;simp only[cr] at h
   obtain⟨rfl,rfl,rfl⟩:=h;obtain⟨k,arr,h1,h2,h3,h4,h5⟩:=hM _ _ hb;have hv:e.φ b'=some (a.eval x):=cQ hV hx;rw[h3] at hv;injection hv with hv
   exact⟨k,arr,h1,h2,h3,h4,h5,hv.symm⟩
  ·cases h
 ·cases h
theorem Yr {P:Program}{w:World}{k ck:Nat}{arr:Array MapEntry}(h:w.heap[k]?=some (.map arr ck)):(getObj k).run P w=.ok (.map arr ck) w:=by simp [getObj,Sem.run,h]
theorem KU {P:Program}{w:World}{k ck:Nat}{arr:Array MapEntry}(o:Obj) (h:w.heap[k]?=some (.map arr ck)):(setObj k o).run P w=.ok () (w.putObj k o):=by simp [setObj,Sem.run,h,World.putObj]
theorem cdr (hg:jm C e w) {b k ck ck':Nat}{arr arr':Array MapEntry}(hb:e.ρ b=some k) (ha:e.al b=true) (hφ:e.φ b=some (.map (some k))) (hk:w.heap[k]?=some (.map arr ck)) {es':Gu}(he:kf e es' arr'.toList) :
 uE C e w n0 n0 [(b,.mp es' ck')] e (w.putObj k (.map arr' ck')):=by
 have hlt:k<w.heap.size:=(Array.getElem?_eq_some_iff.1 hk).1;have hk':(w.putObj k (.map arr' ck')).heap[k]?=some (.map arr' ck'):=by simp [World.putObj,hlt]
 exact JQ (w':=w.putObj k (.map arr' ck')) (ob:=.mp es' ck') hg hb ha ⟨rfl,rfl,rfl,by simp [World.putObj],fun j hj=>GX hj⟩ hk' (.inr (.inr (.inr ⟨_,_,rfl⟩))) ⟨k,arr',hb,ha,hφ,hk',he⟩
theorem cnF (hV:jw e a V) (hM:jk C e w M) (hg:jm C e w) {ty:Nat}{x i:Operand}{ok:Bool}(hu:ckW C.toStat n0 ty (cff M (cD V x)) (KL? (cD V i)) ok=some t) :
 ∃ v,(Instr.lookup ty (a.eval x) (a.eval i) ok).run C.P w=.ok v w/\uh C e w n0 t v w:=by
 unfold ckW at hu;split at hu
 rotate_left
 ·cases hu
 rename_i b es ck k kt el hx hi hm;have hm:=cdi hm;obtain⟨q,arr,h1,h2,h3,h4,h5,h6⟩:=cfj hV hM hx;rw[h6,Gn hV hi];split at hu
 rotate_left
 ·cases hu
 rename_i hck;have hck:(Instr.checkKey arr.isEmpty 10000 kt k).run C.P w=.ok () w:=by
  rw[show arr.isEmpty=cgX es by rw[← h5.empty];simp];exact ZB hck w
 have hget:=Yr (P:=C.P) h4;split at hu
 ·rename_i j hj;split at hu
  rotate_left
  ·cases hu
  rename_i p hp;obtain⟨v,q1,q2,q3⟩:=cck h5 hj hp;have q1:=q1 w;cases ok with
  |true =>
   injection hu with hu;subst hu
   refine⟨.tuple #[v,.bool true],?_,uh.here hg ⟨[v,.bool true],⟨v,_,rfl,q3,_,_,rfl,rfl,rfl⟩,rfl⟩⟩;unfold Instr.lookup;generalize 10000=N at hck ⊢;simp [ua hm,hget,hck,q1]
  |false =>
   injection hu with hu;subst hu
   refine⟨v,?_,uh.here hg q3⟩;unfold Instr.lookup;generalize 10000=N at hck ⊢;simp [ua hm,hget,hck,q1]
 ·rename_i hj;have q1:=Yh h5 hj w;split at hu
  rotate_left
  ·cases hu
  rename_i z hz;obtain⟨v,q2,q3⟩:=cpf hz e;have q3:=q3 w;cases ok with
  |true =>
   injection hu with hu;subst hu
   refine⟨.tuple #[v,.bool false],?_,uh.here hg ⟨[v,.bool false],⟨v,_,rfl,q2,_,_,rfl,rfl,rfl⟩,rfl⟩⟩;unfold Instr.lookup;generalize 10000=N at hck ⊢;simp [ua hm,hget,hck,q1,q3]
  |false =>
   injection hu with hu;subst hu
   refine⟨v,?_,uh.here hg q2⟩;unfold Instr.lookup;generalize 10000=N at hck ⊢;simp [ua hm,hget,hck,q1,q3]
 ·cases hu
theorem cjv {l:Array MapEntry}{j:Nat}{x:MapEntry}{f:MapEntry->MapEntry}(h:l[j]?=some x):(l.modify j f).toList=l.toList.set j (f x):=by
 apply Yu;intro i;simp only[cjp,cdn,List.getElem?_set];by_cases hij:j=i
 ·subst hij;obtain⟨hl,hx⟩:=Array.getElem?_eq_some_iff.1 h;simp [hl,hx]
 ·simp [hij]
theorem ckF (hV:jw e a V) (hM:jk C e w M) (hg:jm C e w) {ty:Nat}{x i y:Operand}(hu:mPut C.toStat n0 ty (cff M (cD V x)) (KL? (cD V i)) (cD V y)=some t) :
 ∃ w',(Instr.mapUpdate ty (a.eval x) (a.eval i) (a.eval y)).run C.P w=.ok () w'/\uh C e w n0 t undef w':=by
 unfold mPut at hu;split at hu
 rotate_left
 ·cases hu
 rename_i b es ck k kt el xv hx hi hm hy;have hm:=cdi hm;obtain⟨q,arr,h1,h2,h3,h4,h5,h6⟩:=cfj hV hM hx;have hxv:xv.is e (a.eval y):=cQ hV hy;rw[h6,Gn hV hi];split at hu
 rotate_left
 ·cases hu
 rename_i hck;have hck:(Instr.checkKey false 10000 kt k).run C.P w=.ok () w:=ZB hck w;have hget:=Yr (P:=C.P) h4;split at hu
 ·rename_i j hj;split at hu
  rotate_left
  ·cases hu
  rename_i p hp;obtain⟨v,q1,q2,q3⟩:=cck h5 hj hp;have q1:=q1 w;have q2:arr[j]?=some ⟨p.1,v,p.2.2⟩:=by simpa using q2
  split at hu
  rotate_left
  ·cases hu
  rename_i hsb;injection hu with hu;subst hu
  have hE:kf e (setE (k,xv,p.2.2) es j) (arr.modify j fun en=>{ en with key:=k,val:=a.eval y }).toList:=by
   rw[cjv q2];exact h5.set hxv
  refine⟨w.putObj q (.map (arr.modify j fun en=>{ en with key:=k,val:=a.eval y }) ck),?_,e,cdr hg h1 h2 h3 h4 hE,rfl⟩;have hst:(Instr.keyThatStays p.1 k).run C.P w=.ok k w:=by
   unfold Instr.keyThatStays;generalize 10000=N at hsb ⊢;simp [hsb]
  unfold Instr.mapUpdate;have hset:=KU (P:=C.P) (.map (arr.modify j fun en=>{ en with key:=k,val:=a.eval y }) ck) h4;generalize 10000=N at hck ⊢;simp [ua hm,hget,hck,q1,q2,hst,hset]
 ·rename_i hj;have q1:=Yh h5 hj w;injection hu with hu;subst hu
  have hE:kf e (es++[(k,xv,ck)]) (arr.push { key:=k,val:=a.eval y,born:=ck }).toList:=by
   rw[Array.toList_push];exact h5.snoc hxv
  refine⟨w.putObj q (.map (arr.push { key:=k,val:=a.eval y,born:=ck }) (ck+1)),?_,e,cdr hg h1 h2 h3 h4 hE,rfl⟩;unfold Instr.mapUpdate;have hset:=KU (P:=C.P) (.map (arr.push { key:=k,val:=a.eval y,born:=ck }) (ck+1)) h4;generalize 10000=N at hck ⊢;simp [ua hm,hget,hck,q1,hset]
 ·cases hu
theorem chV {k:Nat}{o:Obj}(h:w.heap[k]?=some o):w.putObj k o=w:=by
 unfold World.putObj;have:w.heap.setIfInBounds k o=w.heap:=by
  apply Array.ext_getElem?;intro i;rw[ccH];split
  ·rename_i hk;subst hk;split
   ·exact h.symm
   ·rename_i hn;rw[YX (by omega)]
  ·rfl
 rw[this]
theorem mDel_is (hV:jw e a V) (hM:jk C e w M) (hg:jm C e w) {ty rt:Nat}{x i:Operand}{ats:Array TypeId}(hty:ats[0]?=some ty) (hu:mDel C.toStat n0 ty (cff M (cD V x)) (KL? (cD V i))=some t) :
 ∃ w',(Builtin.delete_ ats rt #[a.eval x,a.eval i]).run C.P w=.ok (.tuple #[]) w'/\uh C e w n0 t (.tuple #[]) w':=by
 unfold mDel at hu;split at hu
 rotate_left
 ·cases hu
 rename_i b es ck k kt el hx hi hm;have hm:=cdi hm;obtain⟨q,arr,h1,h2,h3,h4,h5,h6⟩:=cfj hV hM hx;rw[h6,Gn hV hi];split at hu
 rotate_left
 ·cases hu
 rename_i hck;have hck:(Instr.checkKey arr.isEmpty 10000 kt k).run C.P w=.ok () w:=by
  rw[show arr.isEmpty=cgX es by rw[← h5.empty];simp];exact ZB hck w
 have hget:=Yr (P:=C.P) h4;unfold Builtin.delete_;split at hu
 ·rename_i j hj;injection hu with hu;subst hu
  have hv:∃ v,∀ w,(Instr.findKey kt k arr.toList).run C.P w=.ok (some (j,v)) w:=by
   unfold caC at hj;split at hj
   ·rename_i p hv;injection hj with hj;injection hj with hj;subst hj
    obtain⟨r',q1,_,y,_,_,q4⟩:=KS h5 hv;exact⟨y.val,fun w=>by rw[q1,q4]⟩
   ·cases hj
   ·cases hj
  obtain⟨v,q1⟩:=hv;have q1:=q1 w;have hE:kf e (delE es j) (arr.eraseIdxIfInBounds j).toList:=by
   have:(arr.eraseIdxIfInBounds j).toList=arr.toList.eraseIdx j:=by simp
   rw[this];exact h5.del
  refine⟨w.putObj q (.map (arr.eraseIdxIfInBounds j) ck),?_,e,cdr hg h1 h2 h3 h4 hE,[],rfl,rfl⟩;have hset:=KU (P:=C.P) (.map (arr.eraseIdxIfInBounds j) ck) h4;generalize 10000=N at hck ⊢;simp [hty,ua hm,hget,hck,q1,hset]
 ·rename_i hj;have q1:=Yh h5 hj w;injection hu with hu;subst hu
  refine⟨w,?_,uh.here hg ⟨[],rfl,rfl⟩⟩;have hset:=KU (P:=C.P) (.map arr ck) h4;rw[chV h4] at hset;generalize 10000=N at hck ⊢;simp [hty,ua hm,hget,hck,q1,hset]
 ·cases hu
theorem cnY (hW:Wd F) (hV:jw e a V) (hM:jk C e w M) (hg:jm C e w) (hu:cdO C.toStat V M n0 o=some t) (hf:uj n0 t.n1 e)
 (hK:∀ v w',uh C e w n0 t v w'->K (a.put o.dst v) w'):o.wpIn F m C.P a w K Q:=by
 have hnd:Gt o:=by
  intro c hc;unfold cdO at hu;rw[hc] at hu;cases hu
 unfold cdO at hu;split at hu
 ·rename_i ty hop;injection hu with hu;subst hu
  have hk:(w.alloc (.map #[] 0)).heap[w.heap.size]?=some (.map #[] 0):=by
   show (w.heap.push _)[w.heap.size]?=_;simp
  obtain⟨e',q1,q2⟩:=Kt (v:=.map (some w.heap.size)) (ob:=.mp [] 0) hg hf ((cu _ w).alloc (cb _) (.map #[] 0)) (cb _) hk (.inr (.inr (.inr ⟨_,_,rfl⟩))) (fun e' hadv p1 p2 p3=>⟨w.heap.size,#[],p1,p2,p3,hk,rfl⟩);exact cF hW hnd (v:=.map (some w.heap.size)) (w':=w.alloc (.map #[] 0)) (by simp [execOp,hop,Instr.makeMap]) (hK _ _ ⟨e',q1,q2⟩)
 ·rename_i ty x i ok hop;obtain⟨v,h1,h2⟩:=cnF hV hM hg hu;exact cF hW hnd (v:=v) (w':=w) (by simp only[execOp,hop,jd,h1];rfl) (hK _ _ h2)
 ·rename_i ty x i y hop;obtain⟨w',h1,h2⟩:=ckF hV hM hg hu;have:(execOp a.eval o).run C.P w=.ok .skip w':=by simp only[execOp,hop,jd,h1];rfl
  refine⟨fun f _=>hW.fn f,?_⟩;rw[Yj _ _ _ hnd,this];exact hK _ _ h2
 ·rename_i ty x i y hop;obtain⟨w',h1,h2⟩:=ckF hV hM hg hu;have:(execOp a.eval o).run C.P w=.ok .skip w':=by simp only[execOp,hop,jd,h1];rfl
  refine⟨fun f _=>hW.fn f,?_⟩;rw[Yj _ _ _ hnd,this];exact hK _ _ h2
 ·rename_i c hop;split at hu
  rotate_left
  ·rename_i hcal;split at hu
   rotate_left
   ·cases hu
   rename_i vs hvs;have ha:c.args.map a.eval=vs.toArray:=by
    apply Cw;rw[Yg,chg hV hvs]
   refine GN hW hnd hg hu (fun v w' h=>?_) hK;simp [execOp,hop,resolve,hcal,ha,invoke,builtin,h]
  ·cases hu
  rename_i hcal;split at hu
  rotate_left
  ·cases hu
  rename_i x i ty ats hargs hats;have ha:c.args.map a.eval=#[a.eval x,a.eval i]:=by
   apply Cw;simp [hargs]
  have hty:c.argTypes[0]?=some ty:=by rw[← cjp,hats];rfl
  obtain⟨w',h1,h2⟩:=mDel_is (rt:=o.type) hV hM hg hty hu;exact cF hW hnd (v:=.tuple #[]) (w':=w') (by simp [execOp,hop,resolve,hcal,ha,invoke,builtin,h1]) (hK _ _ h2)
 ·cases hu
end
section
variable {S:Stat D}{V:jp}{M:cL D}{n0:Nat}{o:Oper}{t:Out D}
theorem cnK (hu:cdO S V M n0 o=some t):n0<=t.n1:=by
 unfold cdO at hu
 repeat' (split at hu<;>try (cases hu;done))
 ·injection hu with hu;subst hu;exact yd _
 ·unfold ckW at hu
  repeat' (split at hu<;>try (cases hu;done))
  all_goals (injection hu with hu;subst hu;exact cb _)
 ·unfold mPut at hu
  repeat' (split at hu<;>try (cases hu;done))
  all_goals (injection hu with hu;subst hu;exact cb _)
 ·unfold mPut at hu
  repeat' (split at hu<;>try (cases hu;done))
  all_goals (injection hu with hu;subst hu;exact cb _)
 ·unfold mDel at hu
  repeat' (split at hu<;>try (cases hu;done))
  all_goals (injection hu with hu;subst hu;exact cb _)
 ·unfold uN at hu;split at hu
  ·injection hu with hu;subst hu;exact cb _
  ·cases hu
end
variable {D:Type}
def chr (S:Stat D) (T:Tab D) (CF YF:cH D) (V:jp) (M:cL D) (n0:Nat) (o:Oper):Option (Out D) :=
 match cdO S V M n0 o with
 |some r=>some r
 |none=>match ceP S T V M n0 o with
  |some r=>some r
  |none=>EW S T CF YF V M n0 o
section
variable {F:Fence}{m:Nat}{YF:cH D}
variable {C:Ctx D}{e:Env}{a:Act}{w:World}{V:jp}{M:cL D}{T:Tab D}{CF:cH D}{n0:Nat}{K:Act->World->Prop}{Q:Exit->Act->World->Prop}{o:Oper}{t:Out D}
theorem xIx_is (hC:C.Ok) (hV:jw e a V) (hM:jk C e w M) (hg:jm C e w) {ty:Nat}{x:Operand}{s:Src D}{j:Nat}(hs:cdD C.toStat M (cD V x)=some s) (hu:xIx C.toStat n0 ty s j=some t) (hf:uj n0 t.n1 e) (ho:jC t.ob) :
 ∃ v,(Instr.indexAt ty (a.eval x) (.int .i64 (.ofNat j))).run C.P w=.ok v w/\uh C e w n0 t v w:=by
 unfold xIx at hu;split at hu
 rotate_left
 ·cases hu
 rename_i el inf he;obtain⟨hel,hi⟩:=yE he;split at hu
 rotate_left
 ·cases hu
 rename_i hz;have hz:=ct hz;injection hu with hu;subst hu
 have hj:j<s.L.n:=ho.1;obtain⟨h1,h2⟩:=Ze hC hV hM hg hs;rcases h1 with⟨h1,_⟩|⟨k,o,c,arr,pre,vs,rest,h3,_⟩
 ·omega
 have h0:(0:Int)<=Int.ofNat j/\Int.ofNat j<s.L.n:=⟨cdl j,Int.ofNat_lt.2 hj⟩;refine⟨.pointer (some ⟨k,o+j*s.L.z,none⟩),?_,?_⟩
 ·simp only[h3,Instr.indexAt,asIntOf,underlying,jd,yZ,ZA,jA,hel,co h0,jS hi,jJ,hz];rfl
 ·cases hown:s.own with
  |true =>
   rw[hown] at h2;obtain⟨h4,h5⟩:=h2;obtain⟨v,q1,q2⟩:=hM _ _ h5;rw[h4] at q1;injection q1 with q1;subst q1
   rcases q2 with⟨q2,_⟩|⟨k',c',arr',vs',rest',q3,_,q5,_⟩
   ·omega
   rw[h3] at q5;injection q5 with q5;injection q5 with q5;injection q5 with q5 q6
   subst q5;subst q6;obtain⟨e',p1,p2⟩:=GD (v:=.pointer (some ⟨k,0+j*s.L.z,none⟩)) (ob:=.ep s.id j s.L.z 0) hg hf (fun e' hx p=>⟨k,hx.ρ _ _ q3,by rw[p,jc,kb]⟩);exact⟨e',p1,p2⟩
  |false =>
   rw[hown] at h2;obtain⟨h4,_⟩:=h2;rw[h3] at h4;obtain⟨e',p1,p2⟩:=GD (v:=.pointer (some ⟨k,o+j*s.L.z,none⟩)) (ob:=.cp s.id j s.L.z 0) hg hf (fun e' hx p=>⟨k,o,_,c,hx.ν _ _ h4,by rw[p,kb]⟩);exact⟨e',p1,p2⟩
theorem xFa_is (hV:jw e a V) (hM:jk C e w M) (hg:jm C e w) {s f:Nat}{x:Operand}(hu:xFa C.toStat M n0 s f (cD V x)=some t) (hf:uj n0 t.n1 e) :
 ∃ v,(Instr.fieldAt s (a.eval x) f).run C.P w=.ok v w/\uh C e w n0 t v w:=by
 unfold xFa at hu;split at hu
 rotate_left
 ·cases hu
 rename_i b hx;have hv:e.φ b=some (a.eval x):=cQ hV hx;split at hu
 rotate_left
 ·cases hu
 rename_i fl hfl;obtain⟨fs,g1,g2⟩:=CC hfl;split at hu
 rotate_left
 ·cases hu
 rename_i inf hinf;split at hu
 ·cases hu
 rename_i n hsz;split at hu
 ·rename_i l i z o hb;injection hu with hu;subst hu
  obtain⟨k,h1,h2⟩:=hM _ _ hb;rw[hv] at h2;injection h2 with h2
  obtain⟨e',p1,p2⟩:=GD (v:=.pointer (some ⟨k,i*z+o+fl.offset,none⟩)) (ob:=.ep l i z (o+fl.offset)) hg hf (fun e' hx p=>⟨k,hx.ρ _ _ h1,by rw[p,Eg]⟩);refine⟨_,?_,e',p1,p2⟩;simp [h2,Instr.fieldAt,underlying,g1,g2,Instr.sureAddr,fieldPlace,jS hinf,hsz,jJ]
 ·rename_i l i z o hb;injection hu with hu;subst hu
  obtain⟨k,p,n',c,h1,h2⟩:=hM _ _ hb;rw[hv] at h2;injection h2 with h2
  obtain⟨e',p1,p2⟩:=GD (v:=.pointer (some ⟨k,p+(i*z+o)+fl.offset,none⟩)) (ob:=.cp l i z (o+fl.offset)) hg hf (fun e' hx q=>⟨k,p,n',c,hx.ν _ _ h1,by rw[q,Eg,Eg]⟩);refine⟨_,?_,e',p1,p2⟩;simp [h2,Instr.fieldAt,underlying,g1,g2,Instr.sureAddr,fieldPlace,jS hinf,hsz,jJ]
 ·cases hu
theorem cpi {α:Type}(vs:List α) {l h z j:Nat}(hj:j<h-l):((((vs.drop (l*z)).take ((h-l)*z)).drop (j*z)).take z)=(vs.drop ((l+j)*z)).take z:=by
 apply Yu;intro q;have h1:(j+1)*z<=(h-l)*z:=cY z (by omega);rw[cO,kA] at h1;have h2:(l+j)*z=l*z+j*z:=cO l j z;rw[yB,yB];split
 ·rename_i hq;rw[zq,yB,co (by omega),zq,zq,h2];congr 1;omega
 ·rfl
theorem ckS {L:Lt D}{w:World}{l h k o c n:Nat}(h1:cgz C w L (.slice (some ⟨k,o,none⟩) n c)) (hl:l<h) (hh:h<=L.n):cgz C w ⟨L.lo,L.ty,L.z,h-l,fun j=>L.g (l+j)⟩ (.slice (some ⟨k,o+l*L.z,none⟩) (h-l) (c-l)):=by
 rcases h1 with⟨q1,_⟩|⟨k',o',c',arr,pre,vs,rest,q1,q2,q3,q4,q5,q6,q7,q8,q9⟩
 ·omega
 injection q1 with q1 q1' q1''
 injection q1 with q1
 injection q1 with q1 qo
 subst q1;subst qo;subst q1'';have hz:L.n*L.z=l*L.z+((h-l)*L.z+(L.n-h)*L.z):=by
  rw[← cO,← cO];congr 1;omega
 have hvs:vs=vs.take (l*L.z)++((vs.drop (l*L.z)).take ((h-l)*L.z)++(vs.drop (l*L.z)).drop ((h-l)*L.z)):=by
  rw[kj,kj]
 refine .inr ⟨k,o+l*L.z,c-l,arr,pre++vs.take (l*L.z),(vs.drop (l*L.z)).take ((h-l)*L.z),(vs.drop (l*L.z)).drop ((h-l)*L.z)++rest,rfl,?_,q3,?_,?_,?_,q7,?_,?_⟩
 ·show h-l<=c-l;omega
 ·rw[q4]
  conv=>lhs;rw[hvs]
  simp only[yF]
 ·rw[kC,q5,cU];omega
 ·show _=(h-l)*L.z;rw[cU,uK];omega
 ·exact fun v hv=>q8 v (cbG (Wt hv))
 ·intro j hj;have hj:j<h-l:=hj;show cI C w (L.g (l+j)) _;rw[cpi vs hj];exact q9 (l+j) (by omega)
theorem xSl_is (hC:C.Ok) (hV:jw e a V) (hM:jk C e w M) (hg:jm C e w) {ty:Nat}{x:Operand}{lo hi:Option Operand}(hu:xSl C.toStat n0 ty (cdD C.toStat M (cD V x)) (CQ V lo) (CQ V hi)=some t) (hf:uj n0 t.n1 e) (ho:jC t.ob) :
 ∃ v,(Instr.sliceAt ty (a.eval x) (lo.map a.eval) (hi.map a.eval) none).run C.P w=.ok v w/\uh C e w n0 t v w:=by
 cases hs:cdD C.toStat M (cD V x) with
 |none=>rw[hs] at hu;simp [xSl] at hu
 |some s =>
 cases hlo:CQ V lo with
 |none=>rw[hs,hlo] at hu;simp [xSl] at hu
 |some l =>
 cases hhi:CQ V hi with
 |none=>rw[hs,hlo,hhi] at hu;simp [xSl] at hu
 |some h =>
 rw[hs,hlo,hhi] at hu;unfold xSl at hu;simp only at hu;obtain⟨hr,h2⟩:=Ze hC hV hM hg hs;split at hu
 rotate_left
 ·cases hu
 rename_i el inf hown he;obtain⟨hel,hinf⟩:=yE he;rw[hown] at h2;obtain⟨hν,d,hd,hL⟩:=h2;split at hu
 rotate_left
 ·cases hu
 rename_i hz;have hz:=ct hz;injection hu with hu;subst hu
 obtain⟨h3,h4,_⟩:=ho;rcases hr with⟨h5,_⟩|⟨k,o,c,arr,pre,vs,rest,h5,h6,_⟩
 ·omega
 obtain⟨f,q1,q2⟩:=hM _ _ hd;rw[hν] at q1;injection q1 with q1;subst q1
 have hrob:JH C e w [.cls (C.mkL ⟨s.L.lo,s.L.ty,s.L.z,h.getD s.L.n-l.getD 0,fun j=>s.L.g (l.getD 0+j)⟩)] [.slice (some ⟨k,o+l.getD 0*s.L.z,none⟩) (h.getD s.L.n-l.getD 0) (c-l.getD 0)]:=by
  intro w' hk;obtain⟨v,q3,q4⟩:=hC.unlist _ _ _ _ hL (q2 w' hk);injection q3 with q3;subst q3
  rw[h5] at q4;exact Uk hC (hC.lists _ _ _ (ckS q4 h3 h4))
 have hsz:=hC.len _ _ _ (hC.lists _ _ _ (ckS (by
  obtain⟨v,q3,q4⟩:=hC.unlist _ _ _ _ hL (q2 w (uU.refl e w));injection q3 with q3;subst q3
  rw[h5] at q4;exact q4) h3 h4))
 have hsz:C.csz (C.mkL ⟨s.L.lo,s.L.ty,s.L.z,h.getD s.L.n-l.getD 0,fun j=>s.L.g (l.getD 0+j)⟩)=1:=hsz.symm;obtain⟨e',p1,v,ws,p2,p3,p4⟩:=Wu (cs:=[.sym n0 0]) (ws:=[(n0,.cls (C.mkL ⟨s.L.lo,s.L.ty,s.L.z,h.getD s.L.n-l.getD 0,fun j=>s.L.g (l.getD 0+j)⟩))]) (n1:=n0+1) hC hg (by simp only[uP,hsz,zX,uv]) hf hrob;injection p2 with p2 _
 subst p2;refine⟨_,?_,e',p1,p3⟩;have hb:=Kd (C:=C) (w:=w) (n:=s.L.n) (c:=c) (mx:=none) (mx':=none) hV hlo hhi rfl (fun k h=>by cases h) (Ci h3) (by simp only[Option.getD_none];omega) (by simp);simp only[Option.getD_none,Kk] at hb;have hne:¬ c=l.getD 0:=by omega
 simp [Instr.sliceAt,Instr.slice,h5,ua hel,hb,jS hinf,hne,jJ,hz]
theorem chf (hC:C.Ok) (hM:jk C e w M):∀ {cs:List AC}{vs:List Value},CH (ki M) cs=true->cW e cs vs->∀ v∈vs,v.oneCell'=true
 |[],vs,_,h,v,hv=>by rw[show vs=[] from h] at hv;simp at hv
 |c::cs,_,h,⟨u,us,rfl,h1,h2⟩,v,hv=>by
  unfold CH at h;split at h
  ·rename_i hc;rcases List.mem_cons.1 hv with rfl|hv
   ·exact zG hC hM hc h1
   ·exact chf hC hM h h2 v hv
  ·cases h
theorem uE.same {n1:Nat}{ws ws':Ws D}{e':Env}{w':World}(h:uE C e w n0 n1 ws e' w') (hs:∀ b,find b ws'=find b ws):uE C e w n0 n1 ws' e' w' :=
 ⟨h.le,h.adv,h.new,h.good,fun b o ho=>h.wrote b o (by rw[← hs];exact ho),fun b o ho hn=>h.kept b o ho (by rw[← hs];exact hn)⟩
theorem xBox_is (hC : C.Ok) (hV : jw e a V) (hM : jk C e w M) (hg : jm C e w) {ty : Nat} {x : Operand} (hu : xBox C.toStat M n0 ty (cD V x) = some t) (hf : uj n0 t.n1 e) :
    uh C e w n0 t (.pointer (some ⟨w.heap.size, 0, none⟩)) { w with heap := w.heap.push (.cells (a.eval x).cells ty) } := by
  unfold xBox at hu
  split at hu
  rotate_left
  · cases hu
  rename_i y hy
  split at hu
  rotate_left
  · cases hu
  rename_i gs hs hgs hpos
  injection hu with hu; subst hu
  have hx : y.is e (a.eval x) := cQ hV hy
  have hcs := A1.cells_are hC hM hx hs
  have hone := chf hC hM hs hcs
  have hlen := hcs.length
  have hb := Et w (.cells (a.eval x).cells ty)
  have hk : (w.heap.push (.cells (a.eval x).cells ty))[w.heap.size]? = some (.cells (a.eval x).cells ty) := by simp
  have hrob := (KE hC hM hgs hcs).adv (Adv.below hg hb)
  generalize hw : ({ w with heap := w.heap.push (.cells (a.eval x).cells ty) } : World) = w' at hb hrob ⊢
  have hk : w'.heap[w.heap.size]? = some (.cells (a.eval x).cells ty) := by rw [← hw]; exact hk
  have hlt : w.heap.size < w'.heap.size := (Array.getElem?_eq_some_iff.1 hk).1
  have hL : ∀ w'', uU e w' w'' → cgz C w'' ⟨C.lo, ty, y.cells.length, 1, fun _ => gs⟩ (.slice (some ⟨w.heap.size, 0, none⟩) 1 1) := by
    intro w'' hkp
    refine .inr ⟨w.heap.size, 0, 1, (a.eval x).cells, [], (a.eval x).cells.toList, [], rfl, cb _, ⟨(0, 0), ?_⟩, by simp, rfl, ?_, cB hC.los hg.below.size, hone, fun j hj => ?_⟩
    · rw [hkp.block _ hlt (fun b hb' => by have := hg.lt hb'; omega)]
      exact hk
    · show _ = 1 * y.cells.length
      rw [hlen, kA]
    · obtain rfl : j = 0 := Nat.lt_one_iff.1 hj
      have := hrob w'' hkp
      rw [Jq, uB, ku (show _ ≤ y.cells.length by omega)]
      exact this
  have hsz : C.csz (C.mkL ⟨C.lo, ty, y.cells.length, 1, fun _ => gs⟩) = 1 := (hC.len _ _ _ (hC.lists _ _ _ (hL w' (uU.refl _ _)))).symm
  have l1 := uE.below (n0 := n0) hg hb
  obtain ⟨e1, l2, u, us, p2, p3, p4⟩ := Wu (cs := [.sym n0 0]) (ws := [(n0, .cls (C.mkL ⟨C.lo, ty, y.cells.length, 1, fun _ => gs⟩))]) (n1 := n0 + 1) (gs := [.cls (C.mkL ⟨C.lo, ty, y.cells.length, 1, fun _ => gs⟩)]) (vs := [.slice (some ⟨w.heap.size, 0, none⟩) 1 1]) hC l1.good (by simp only [uP, hsz, zX, uv]) (fun b h1 h2 => hf b h1 (Nat.lt_succ_of_lt h2)) (fun w'' hkp => Uk hC (hC.lists _ _ _ (hL w'' hkp)))
  injection p2 with p2 _
  subst p2
  obtain ⟨l, q1, q2, _⟩ := p3
  have hν : e1.ν n0 = some [.slice (some ⟨w.heap.size, 0, none⟩) 1 1] := by
    obtain ⟨f, r1, r2⟩ := l2.wrote n0 (.cls (C.mkL ⟨C.lo, ty, y.cells.length, 1, fun _ => gs⟩)) (by simp [cS])
    rw [q1] at r1; injection r1 with r1; subst r1
    obtain ⟨v, r3, _⟩ : ∃ v, l = [v] ∧ True := by
      have := hC.len _ _ _ r2.out
      rw [hsz] at this
      match l, this with
      | [v], _ => exact ⟨v, rfl, trivial⟩
    subst r3
    rw [q1]
    have q2 : [v][0]? = some _ := q2
    injection q2 with q2
    rw [q2]
  have hf2 : uj (n0 + 1) (n0 + 1 + 1) e1 := fun b h1 h2 => by
    obtain ⟨f1, f2, f3⟩ := hf b (by omega) h2
    refine ⟨?_, ?_, ?_⟩
    · cases hb : e1.ρ b with
      | none => rfl
      | some z => rcases l2.new.ρ b z hb with h | h
                  · rw [f1] at h; cases h
                  · omega
    · cases hb : e1.ν b with
      | none => rfl
      | some z => rcases l2.new.ν b z hb with h | h
                  · rw [f2] at h; cases h
                  · omega
    · cases hb : e1.φ b with
      | none => rfl
      | some z => rcases l2.new.φ b z hb with h | h
                  · rw [f3] at h; cases h
                  · omega
  obtain ⟨e2, l3, hφ⟩ := GD (v := .pointer (some ⟨w.heap.size, 0, none⟩)) (ob := .cp n0 0 y.cells.length 0) l2.good hf2 (fun e' hx p => ⟨w.heap.size, 0, 1, 1, hx.ν _ _ hν, by rw [p]; simp⟩)
  refine ⟨e2, ((l1.trans l2).trans l3).same (fun b => ?_), hφ⟩
  simp only [EB, cS, jj]
  cases Nat.beq (n0 + 1) b <;> cases Nat.beq n0 b <;> rfl
theorem epOb {n1 ty:Nat}{p:Epo D}(hu:ceL C.toStat n1 ty p=some t) (ho:jC t.ob):p.i<p.L.n:=by
 unfold ceL at hu
 repeat' (split at hu<;>try (cases hu;done))
 all_goals (injection hu with hu;subst hu;exact ho.1)
theorem epOb' {n1 ty:Nat}{p:Epo D}{cs:List AC}(hu:cad C.toStat M n1 ty p cs=some t) (ho:jC t.ob):p.i<p.L.n:=by
 unfold cad at hu
 repeat' (split at hu<;>try (cases hu;done))
 all_goals (injection hu with hu;subst hu;exact ho.1)
theorem caA (hV:jw e a V):∀ {l:List (Nat×Operand)}{vs:List (Nat×Value)},Uz V l=some vs->l.map (fun p=>(p.1,a.eval p.2))=vs
 |[],vs,h=>by simp [Uz] at h;subst h;rfl
 |p::l,vs,h=>by
  unfold Uz at h;split at h
  ·rename_i v hv;split at h
   ·rename_i us hus;injection h with h;subst h
    rw[jN,caA hV hus,Gn hV hv]
   ·cases h
  ·cases h
theorem coa (hW:Wd F) (hC:C.Ok) (hV:jw e a V) (hM:jk C e w M) (hg:jm C e w) (hu:ceP C.toStat T V M n0 o=some t) (hf:uj n0 t.n1 e) (ho:jC t.ob)
 (hK:∀ v w',uh C e w n0 t v w'->K (a.put o.dst v) w'):o.wpIn F m C.P a w K Q:=by
 have hnd:Gt o:=by
  intro c hc;unfold ceP at hu;rw[hc] at hu;cases hu
 unfold ceP at hu;split at hu
 ·rename_i ty x hop;split at hu
  rotate_left
  ·cases hu
  rename_i p hp;have hi:=epOb hu ho;obtain⟨k,o',arr,pre,vs,rest,h1,h2,h3,h4,h5,h6,_,_⟩:=ckB hC hV hM hg hp hi;obtain⟨v,h7,h8⟩:=cnQ hC hg hu hf h2 h3 h4 (h6 _ hi);exact cF hW hnd (by simp [execOp,hop,h1,Instr.loadAt,Instr.sureAddr,h7]) (hK _ _ h8)
 ·rename_i ty x y hop;split at hu
  rotate_left
  ·cases hu
  rename_i p hp;split at hu
  rotate_left
  ·cases hu
  rename_i z hz;have hi:=epOb' hu ho;obtain⟨k,o',arr,pre,vs,rest,h1,h2,h3,h4,h5,h6,h7,h8⟩:=ckB hC hV hM hg hp hi;obtain⟨w',h9,h10⟩:=cnt hC hM hg (cQ hV hz) hu hi h2 h3 h5 h6 h7 h8;have:(execOp a.eval o).run C.P w=.ok .skip w':=by simp [execOp,hop,h1,Instr.storeAt,Instr.sureAddr,h9]
  refine⟨fun f _=>hW.fn f,?_⟩;rw[Yj _ _ _ hnd,this];exact hK _ _ h10
 ·rename_i ty x i hop;split at hu
  rotate_left
  ·split at hu
   rotate_left
   ·cases hu
   rename_i b p j len el hx hj hel;split at hu
   rotate_left
   ·cases hu
   rename_i inf hlt hinf;have hlt:=yf hlt;obtain⟨k,hk,hx⟩:=Ja hV hx;have hi:=ky hV hj;have h0:(0:Int)<=Int.ofNat j/\Int.ofNat j<len:=⟨cdl j,Int.ofNat_lt.2 hlt⟩;have hr:(Instr.indexAt ty (.pointer (some ⟨k,p,none⟩)) (.int .i64 (.ofNat j))).run C.P w=.ok (.pointer (some ⟨k,p+j*inf.size,none⟩)) w:=by
    simp only[Instr.indexAt,asIntOf,underlying,jd,yZ,ZA,jA,hel,Instr.sureAddr,co h0,jS hinf,jJ];rfl
   injection hu with hu;subst hu
   exact cF hW hnd (v:=.pointer (some ⟨k,p+j*inf.size,none⟩)) (w':=w) (by simp only[execOp,hop,hx,hi,jd,hr];rfl) (hK _ _ (uh.here hg ⟨k,hk,rfl⟩))
  rename_i s hs;split at hu
  rotate_left
  ·cases hu
  rename_i j hj;have hi:=ky hV hj;obtain⟨v,h1,h2⟩:=xIx_is hC hV hM hg hs hu hf ho;exact cF hW hnd (v:=v) (w':=w) (by simp only[execOp,hop,hi,jd,h1];rfl) (hK _ _ h2)
 ·rename_i s x f hop;obtain⟨v,h1,h2⟩:=xFa_is hV hM hg hu hf;exact cF hW hnd (v:=v) (w':=w) (by simp only[execOp,hop,jd,h1];rfl) (hK _ _ h2)
 ·rename_i ty x lo hi hop;obtain⟨v,h1,h2⟩:=xSl_is hC hV hM hg hu hf ho;exact cF hW hnd (v:=v) (w':=w) (by simp only[execOp,hop,Kk,jd,h1];rfl) (hK _ _ h2)
 ·rename_i ty l c hop;split at hu
  rotate_left
  ·cases hu
  cases hl:lit? (cD V l) with
  |none=>rw[hl] at hu;simp [xMk] at hu
  |some vl =>
   cases hc:lit? (cD V c) with
   |none=>rw[hl,hc] at hu;unfold xMk at hu;split at hu<;>simp_all
   |some vc =>
    rw[hl,hc] at hu;obtain⟨v,w',h1,h2⟩:=xMk_is hC hg hu hf ho;exact cF hW hnd (w':=w') (by simp [execOp,hop,ky hV hl,ky hV hc,h1]) (hK _ _ h2)
 ·rename_i ty hop;have key:∃ v w',(Instr.buildSlice ty 0 #[]).run C.P w=.ok v w'/\uh C e w n0 t v w':=by
   split at hu
   ·exact xBp_is hg hu hf
   ·exact xBs_is hg hu hf
  obtain⟨v,w',h1,h2⟩:=key;refine cF hW hnd (w':=w') ?_ (hK _ _ h2);simp only[execOp,hop,jd];rw[show (Array.map (fun x:Nat×Operand=>(x.1,a.eval x.2)) { toList:=[] })=#[] by simp,h1];rfl
 ·rename_i ty x hop;split at hu
  ·cases hu
  refine cF hW hnd (v:=.pointer (some ⟨w.heap.size,0,none⟩)) (w':={ w with heap:=w.heap.push (.cells (a.eval x).cells ty) }) ?_ (hK _ _ (xBox_is hC hV hM hg hu hf));simp [execOp,hop,Instr.box,Ew]
 ·rename_i ty parts hop;split at hu
  rotate_left
  ·cases hu
  split at hu
  rotate_left
  ·cases hu
  rename_i vs hvs;have hp:parts.map (fun p:Nat×Operand=>(p.1,a.eval p.2))=vs.toArray:=by
   apply Cw;rw[Yg,caA hV hvs]
  refine GN hW hnd hg hu (fun v w' h=>?_) hK;simp only[execOp,hop,jd];rw[show (Array.map (fun x:Nat×Operand=>(x.1,a.eval x.2)) parts)=vs.toArray from hp,h];rfl
 ·rename_i ty x y u hop;split at hu
  rotate_left
  ·cases hu
  rename_i p el hx hy hel;obtain⟨b,o',n⟩:=p;obtain⟨k,cp,hk,hx⟩:=cay hV hx;have hy:=ky hV hy;refine yY hW hnd hg hu (v:=.bool false) ?_ rfl hK;have hgd:(eqGuard .eql ty x y (.slice (some ⟨k,o',none⟩) n cp) (.slice none 0 0)).run C.P w=.ok () w:=rfl;have he:(Go.binOp .eql ty (.slice (some ⟨k,o',none⟩) n cp) (.slice none 0 0)).run C.P w=.ok (.bool false) w:=by
   have h0:(Op.equalIn (9999+1) ty (.slice (some ⟨k,o',none⟩) n cp) (.slice none 0 0)).run C.P w=.ok false w:=by
    generalize 9999=d;simp [Op.equalIn,ua hel]
   have h1:(Op.equal ty (.slice (some ⟨k,o',none⟩) n cp) (.slice none 0 0)).run C.P w=.ok false w:=h0;simp [Go.binOp,h1]
  simp only[execOp,hop,hx,hy,jd,hgd,he,jA];rfl
 ·rename_i c hop;split at hu
  ·rename_i hcal;split at hu
   rotate_left
   ·cases hu
   rename_i x hargs;have ha:c.args.map a.eval=#[a.eval x]:=by
    apply Cw;simp [hargs]
   split at hu
   rotate_left
   ·cases hu
   rename_i s ty hs hty;split at hu
   rotate_left
   ·cases hu
   rename_i el hel;obtain⟨ao,cp,hx,_⟩:=(Ze hC hV hM hg hs).1.shape;refine yY hW hnd hg hu (v:=goInt s.L.n) ?_ rfl hK;have hty':c.argTypes[0]?=some ty:=hty;simp [execOp,hop,resolve,hcal,ha,invoke,builtin,Builtin.len_,hty',ua hel,hx]
  ·rename_i hcal;split at hu
   rotate_left
   ·cases hu
   rename_i s x hargs;have ha:c.args.map a.eval=#[a.eval s,a.eval x]:=by
    apply Cw;simp [hargs]
   obtain⟨v,w',h1,h2⟩:=xApp_is hC hV hM hg hu hf ho o.type;have h1:(Builtin.append_ c.argTypes o.type #[a.eval s,a.eval x]).run C.P w=.ok v w':=by simpa using h1
   exact cF hW hnd (w':=w') (by simp [execOp,hop,resolve,hcal,ha,invoke,builtin,h1]) (hK _ _ h2)
  ·cases hu
 ·cases hu
theorem cor (hW:Wd F) (hC:C.Ok) (hT:T.Ok C) (hF:CF.Ok C) (hY:zI C YF) (hV:jw e a V) (hM:jk C e w M) (hg:jm C e w) (hu:chr C.toStat T CF YF V M n0 o=some t) (hf:uj n0 t.n1 e) (ho:jC t.ob)
 (hK:∀ v w',uh C e w n0 t v w'->K (a.put o.dst v) w'):o.wpIn F m C.P a w K Q:=by
 unfold chr at hu;split at hu
 ·rename_i r hr;injection hu with hu;subst hu
  exact cnY hW hV hM hg hr hf hK
 split at hu
 ·rename_i r hr;injection hu with hu;subst hu
  exact coa hW hC hV hM hg hr hf ho hK
 ·exact GF hW hC hT hF hY hV hM hg hu hf ho hK
end
section
variable {S:Stat D}{T:Tab D}{V:jp}{M:cL D}{n0:Nat}{o:Oper}{t:Out D}
theorem coK (hu:ceP S T V M n0 o=some t):n0<=t.n1:=by
 unfold ceP at hu
 repeat' (split at hu<;>try (cases hu;done))
 ·unfold ceL at hu
  repeat' (split at hu<;>try (cases hu;done))
  all_goals (rename_i hm;injection hu with hu;subst hu;exact Cg hm)
 ·unfold cad at hu
  repeat' (split at hu<;>try (cases hu;done))
  all_goals (injection hu with hu;subst hu;exact cb _)
 ·unfold xIx at hu
  repeat' (split at hu<;>try (cases hu;done))
  all_goals (injection hu with hu;subst hu;exact yd _)
 ·injection hu with hu;subst hu;exact cb _
 ·unfold xFa at hu
  repeat' (split at hu<;>try (cases hu;done))
  all_goals (injection hu with hu;subst hu;exact yd _)
 ·unfold xSl at hu
  repeat' (split at hu<;>try (cases hu;done))
  all_goals (injection hu with hu;subst hu;exact yd _)
 ·unfold xMk at hu
  repeat' (split at hu<;>try (cases hu;done))
  all_goals (injection hu with hu;subst hu;exact yd _)
 ·unfold xBp zx at hu
  repeat' (split at hu<;>try (cases hu;done))
  all_goals (injection hu with hu;subst hu;exact yd _)
 ·unfold xBs at hu
  repeat' (split at hu<;>try (cases hu;done))
  all_goals (injection hu with hu;subst hu;exact yd _)
 ·unfold xBox at hu
  repeat' (split at hu<;>try (cases hu;done))
  all_goals (injection hu with hu;subst hu;exact cbE _ 2)
 ·unfold uN at hu;split at hu
  ·injection hu with hu;subst hu;exact cb _
  ·cases hu
 ·injection hu with hu;subst hu;exact cb _
 ·injection hu with hu;subst hu;exact cb _
 ·unfold xApp at hu
  repeat' (split at hu<;>try (cases hu;done))
  all_goals (injection hu with hu;subst hu;exact yd _)
end
variable {D:Type}
structure St (D:Type) where
 nb:Nat
 sl:List (Nat×AV)
 m:Ws D
 ms:List Nat
def over (base:cL D) (m:Ws D):cL D:=fun b=>match find b m with
 |some o=>some o
 |none=>base b
def cfx (nt:Nat) (dst:Option Tmp) (x:AV) (sl:List (Nat×AV)):Option (List (Nat×AV)) :=
 match dst with
 |none=>some sl
 |some d=>match Nat.blt d nt with
  |true=>some (kX [(d,x)] sl)
  |false=>none
def cfY (V:jp) (ops:List Oper) (o:Oper):Option Bool :=
 match o.guard with
 |none=>some true
 |some (j,want)=>match ops[j]? with
  |some oj=>match oj.dst with
   |some t=>match lit? (V t) with
    |some (.bool b)=>match b,want with
     |true,true=>some true
     |false,false=>some true
     |_,_=>some false
    |some (.tuple ⟨[]⟩)=>some false
    |_=>none
   |none=>none
  |none=>none
def cdf (S:Stat D) (T:Tab D) (CF YF:cH D) (V:jp) (M:cL D) (n0:Nat) (ops:List Oper) (o:Oper):Option (Out D) :=
 match cfY V ops o with
 |some true=>chr S T CF YF V M n0 o
 |some false=>out n0 Ku
 |none=>none
def Ug (S:Stat D) (T:Tab D) (CF YF:cH D) (nt:Nat) (base:cL D) (ops:List Oper):List Oper->St D->Option (St D×List Prop)
 |[],st=>some (st,[])
 |o::l,st=>match cdf S T CF YF (fun t=>find t st.sl) (over base st.m) st.nb ops o with
  |some t=>match cfx nt o.dst t.x st.sl with
   |some sl=>match Ug S T CF YF nt base ops l ⟨t.n1,sl,kX t.ws st.m,st.ms⟩ with
    |some (st',ob)=>some (st',t.ob++ob)
    |none=>none
   |none=>none
  |none=>none
def cH.Mono (CF:cH D):Prop:=∀ M n0 f l t,CF M n0 f l=some t->n0<=t.n1
section
variable {S:Stat D}{T:Tab D}{CF YF:cH D}{V:jp}{M:cL D}{n0:Nat}{t:Out D}
theorem mkR_le {csz:D->Nat}{p:jy D}{s s':Nat}{x:AV}{l:Ws D}(h:mkR csz s p=some (x,l,s')):s<=s':=by
 cases p with
 |val p =>
  simp only[mkR] at h;split at h
  ·rename_i hp;injection h with h
   simp only[cr] at h;have:=cge hp;omega
  ·cases h
 |tup ps =>
  simp only[mkR] at h;split at h
  ·rename_i hp;injection h with h
   simp only[cr] at h;have:=Wn hp;omega
  ·cases h
theorem cgE {x:AV}(h:(out n0 x:Option (Out D))=some t):n0<=t.n1:=by
 injection h with h;subst h;exact cb _
theorem cow {P:Program}{s:Sem Value}(h:(uN P n0 s:Option (Out D))=some t):n0<=t.n1:=by
 unfold uN at h;split at h
 ·exact cgE h
 ·cases h
theorem WO {ty:Nat}{cs:List AC}{z:Option Nat}{x:AC}(h:zx S n0 ty cs z x=some t):n0<=t.n1:=by
 unfold zx at h;split at h
 ·injection h with h;subst h;exact yd _
 ·cases h
theorem clG {h:Hd}{d:Nat}{xs:List Operand}(hu:EA S T V M n0 d h xs=some t):n0<=t.n1:=by
 unfold EA at hu
 repeat' (split at hu<;>try (cases hu;done))
 rename_i hm;injection hu with hu;subst hu
 exact mkR_le hm
theorem coI (hF:CF.Mono) {f:FuncId}{d:Nat}{l:List AV}(hu:caL S T CF M n0 d f l=some t):n0<=t.n1:=by
 unfold caL at hu;split at hu
 ·rename_i hr;injection hu with hu;subst hu
  unfold memA at hr
  repeat' (split at hr<;>try (cases hr;done))
  injection hr with hr;subst hr
  exact cb _
 split at hu
 ·repeat' (split at hu<;>try (cases hu;done))
  rename_i hm;injection hu with hu;subst hu
  exact mkR_le hm
 ·exact hF _ _ _ _ _ hu
theorem cmo {ty b o:Nat}{cs:List AC}(hu:cae S M n0 ty b o cs=some t):n0<=t.n1:=by
 unfold cae at hu
 repeat' (split at hu<;>try (cases hu;done))
 injection hu with hu;subst hu
 exact cb _
theorem bsA_le {ty n:Nat}{ps:Array (Nat×Operand)}(hu:bsA S V M n0 ty n ps=some t):n0<=t.n1:=by
 unfold bsA at hu
 repeat' (split at hu<;>try (cases hu;done))
 exact WO hu
theorem mkA_le {ty:Nat}{l c:Option Value}(hu:mkA S n0 ty l c=some t):n0<=t.n1:=by
 unfold mkA at hu
 repeat' (split at hu<;>try (cases hu;done))
 exact WO hu
theorem cjQ {ats:List Nat}{s:AV}{x:Option AV}(hu:WD S M n0 ats s x=some t):n0<=t.n1:=by
 unfold WD at hu
 repeat' (split at hu<;>try (cases hu;done))
 all_goals first
  |exact WO hu
  |(injection hu with hu;subst hu;first|exact cb _|exact yd _)
theorem cms {ats:List Nat}{x:Option AV}(hu:ZN S M n0 ats x=some t):n0<=t.n1:=by
 unfold ZN at hu
 repeat' (split at hu<;>try (cases hu;done))
 injection hu with hu;subst hu
 exact cb _
theorem cmq {ty:Nat}{x:Option AV}{lo hi mx:Option Operand}(hu:ZK S V M n0 ty x lo hi mx=some t):n0<=t.n1:=by
 unfold ZK at hu
 repeat' (split at hu<;>try (cases hu;done))
 all_goals exact cgE hu
theorem cml (hF:CF.Mono) (hYF:YF.Mono) {o:Oper}(hu:EW S T CF YF V M n0 o=some t):n0<=t.n1:=by
 rw[Zy] at hu;unfold cbg at hu;simp only at hu
 repeat' (split at hu<;>try (cases hu;done))
 all_goals first
  |exact cgE hu
  |exact cow hu
  |exact WO hu
  |exact clG hu
  |exact coI hF hu
  |exact cmo hu
  |exact bsA_le hu
  |exact cjQ hu
  |exact cms hu
  |exact hYF _ _ _ _ _ hu
  |(injection hu with hu;subst hu;rename_i h;first|exact cmq h|exact mkA_le h|exact clG h)
  |(injection hu with hu;subst hu;exact yd _)
theorem cod (hF:CF.Mono) (hYF:YF.Mono) {o:Oper}(hu:chr S T CF YF V M n0 o=some t):n0<=t.n1:=by
 unfold chr at hu;split at hu
 ·rename_i r hr;injection hu with hu;subst hu
  exact cnK hr
 split at hu
 ·rename_i r hr;injection hu with hu;subst hu
  exact coK hr
 ·exact cml hF hYF hu
theorem cgM (hF:CF.Mono) (hYF:YF.Mono) {ops:List Oper}{o:Oper}(hu:cdf S T CF YF V M n0 ops o=some t):n0<=t.n1:=by
 unfold cdf at hu;split at hu
 ·exact cod hF hYF hu
 ·exact cgE hu
 ·cases hu
theorem ZL (hF:CF.Mono) (hYF:YF.Mono) {nt:Nat}{base:cL D}{ops:List Oper}:∀ {l:List Oper}{st st':St D}{ob:List Prop},Ug S T CF YF nt base ops l st=some (st',ob)->st.nb<=st'.nb
 |[],st,st',ob,h=>by
  simp only[Ug,kD,cr] at h;rw[h.1];exact cb _
 |o::l,st,st',ob,h=>by
  simp only[Ug] at h;split at h
  ·rename_i t ht;split at h
   ·split at h
    ·rename_i st1 ob1 hs;injection h with h;injection h with h1 h2;subst h1
     exact cB (cgM hF hYF ht) (ZL hF hYF hs)
    ·cases h
   ·cases h
  ·cases h
end
def UR (r:Nat):Deferred:={ target:=.collected r,args:=#[] }
def WT (e:Env):List Nat->List Nat->Prop
 |[],rs=>rs=[]
 |b::bs,rs=>∃ r rs',rs=r::rs'/\e.ρ b=some r/\WT e bs rs'
theorem WT.ext {e e':Env}(h:Ext e e'):∀ {bs rs:List Nat},WT e bs rs->WT e' bs rs
 |[],_,hm=>hm
 |_::_,_,⟨r,rs',h1,h2,h3⟩=>⟨r,rs',h1,h.ρ _ _ h2,WT.ext h h3⟩
structure Sat (C:Ctx D) (nt:Nat) (e0:Env) (w0:World) (n0:Nat) (st:St D) (a:Act) (w:World):Prop where
 ex:∃ e,uE C e0 w0 n0 st.nb st.m e w/\jw e a (fun t=>find t st.sl)/\∃ rs,a.defers=rs.map UR/\WT e st.ms rs
 size:a.tmps.size=nt
section
variable {F:Fence}{m:Nat}
variable {C:Ctx D}{e0 e:Env}{w0 w w':World}{a:Act}{T:Tab D}{CF YF:cH D}{n0 nt:Nat}{base:cL D}{Q:Exit->Act->World->Prop}
theorem uD (a:Act) (d:Option Tmp) (v:Value):(a.put d v).tmps.size=a.tmps.size:=by cases d<;>simp [Act.put]
theorem ub (a:Act) (d:Option Tmp) (v:Value):(a.put d v).defers=a.defers:=by cases d<;>rfl
theorem uY (hb:jk C e0 w0 base) {m:Ws D}{n1:Nat}(h:uE C e0 w0 n0 n1 m e w):jk C e w (over base m):=fun b o ho=>by
 unfold over at ho;split at ho
 ·rename_i o' hf;injection ho with ho;subst ho
  exact h.wrote b _ hf
 ·rename_i hn;exact h.kept b o (hb b o ho) hn
theorem ccs {e e':Env}{dst:Option Tmp}{x:AV}{sl sl':List (Nat×AV)}(hs:a.tmps.size=nt) (hV:jw e a (fun t=>find t sl)) (hp:cfx nt dst x sl=some sl') (hx:Ext e e') {v:Value}(hv:x.is e' v):jw e' (a.put dst v) (fun t=>find t sl'):=by
 unfold cfx at hp;split at hp
 ·injection hp with hp;subst hp
  exact hV.ext hx
 ·rename_i d;split at hp
  ·rename_i hd;have hd:=yf hd;injection hp with hp;subst hp
   intro t y hy;have hy:find t (kX [(d,x)] sl)=some y:=hy;rw[EB] at hy;by_cases hdt:d=t
   ·subst hdt;simp only[jj,cS,Nat.beq_refl] at hy;injection hy with hy;subst hy
    exact⟨v,by simp [Act.put,hs,hd],hv⟩
   ·have hb:Nat.beq d t=false:=by
     cases h:Nat.beq d t with
     |false=>rfl
     |true=>exact absurd (ct h) hdt
    simp only[jj,cS,hb] at hy;obtain⟨u,h1,h2⟩:=hV.ext hx t y hy;exact⟨u,by simp [Act.put,hdt,h1],h2⟩
  ·cases hp
theorem Yi {ops:Array Oper}{a:Act}{oj:Oper}{j:Nat}{t:Tmp}{b:Bool}(ho:ops[j]?=some oj) (hd:oj.dst=some t) (he:a.eval (.tmp t)=.bool b):yielded ops a.tmps j=some b:=by
 unfold yielded;simp only[ho,Option.bind_some,hd];simp only[Act.eval,uQ] at he;cases h:a.tmps[t]? with
 |none=>rw[h] at he;simp [undef] at he
 |some x=>rw[h] at he;simp at he;rw[he]
theorem chv (hW:Wd F) (hC:C.Ok) (hT:T.Ok C) (hF:CF.Ok C) (hY:zI C YF) {V:jp}{M:cL D}(hV:jw e a V) (hM:jk C e w M) (hg:jm C e w) {ops:Array Oper}{o:Oper}{n:Nat}{t:Out D}(hu:cdf C.toStat T CF YF V M n ops.toList o=some t) (hf:uj n t.n1 e) (ho:jC t.ob) {K:Act->World->Prop}
 (hK:∀ v w',uh C e w n t v w'->K (a.put o.dst v) w'):if Region.wanted o (yielded ops a.tmps) then o.wpIn F m C.P a w K Q else K (a.put o.dst undef) w:=by
 unfold cdf at hu;have hgo:∀ g,cfY V ops.toList o=some g->Region.wanted o (yielded ops a.tmps)=g:=by
  intro g hg;unfold cfY at hg;split at hg
  ·rename_i hgu;injection hg with hg;subst hg
   simp [Region.wanted,hgu]
  ·rename_i j want hgu;split at hg
   ·rename_i oj hoj;have hoj:ops[j]?=some oj:=by simpa using hoj
    split at hg
    ·rename_i t ht;split at hg
     ·rename_i b hb;have hy:=Yi hoj ht (ky hV (x:=.tmp t) hb);split at hg<;>injection hg with hg<;>subst hg
      ·simp [Region.wanted,hgu,hy]
      ·simp [Region.wanted,hgu,hy]
      ·rename_i n1 n2;simp only[Region.wanted,hgu,hy];cases b<;>cases want<;>simp_all
     ·rename_i hb;have he:a.eval (.tmp t)=.tuple #[]:=ky hV (x:=.tmp t) hb;injection hg with hg;subst hg
      have hy:yielded ops a.tmps j=none:=by
       unfold yielded;simp only[hoj,Option.bind_some,ht];simp only[Act.eval,uQ] at he;cases h:a.tmps[t]? with
       |none=>rfl
       |some x=>rw[h] at he;simp at he;rw[he]
      simp [Region.wanted,hgu,hy]
     ·cases hg
    ·cases hg
   ·cases hg
 split at hu
 ·rename_i hgu;rw[hgo _ hgu,co rfl];exact cor hW hC hT hF hY hV hM hg hu hf ho hK
 ·rename_i hgu;rw[hgo _ hgu,cg (by simp)];injection hu with hu;subst hu
  exact hK _ _ (uh.here hg rfl)
 ·cases hu
theorem cef (hW:Wd F) (hC:C.Ok) (hT:T.Ok C) (hF:CF.Ok C) (hFm:CF.Mono) (hY:zI C YF) (hYm:YF.Mono) (hb:jk C e0 w0 base) {ops:Array Oper}:∀ (k:Nat) (l:List Oper) (i:Nat) (st st':St D) (ob:List Prop),l.length=k->ops.toList.drop i=l->Ug C.toStat T CF YF nt base ops.toList l st=some (st',ob)->jC ob->uj n0 st'.nb e0->
 (∀ a w,Sat C nt e0 w0 n0 st' a w->Q .normal a w)->∀ a w,Sat C nt e0 w0 n0 st a w->wpOpsIn F m C.P ops Q (List.range' i k) a w
 |0,l,i,st,st',ob,hl,hd,h,ho,hf,hQ,a,w,hs=>by
  have:l=[]:=by simpa using hl
  subst this;simp only[Ug,kD,cr] at h;rw[← h.1] at hQ;exact hQ a w hs
 |k+1,[],i,st,st',ob,hl,hd,h,ho,hf,hQ,a,w,hs=>by simp at hl
 |k+1,o::l,i,st,st',ob,hl,hd,h,ho,hf,hQ,a,w,hs=>by
  simp only[Ug] at h;split at h
  ·rename_i t ht;split at h
   ·rename_i sl hsl;split at h
    ·rename_i st1 ob1 hrest;injection h with h;injection h with h1 h2;subst h1;subst h2
     obtain⟨ho1,ho2⟩:=ho.append;have hmono:=ZL hFm hYm hrest;obtain⟨⟨e,hL,hV,rs,hdf,hmk⟩,hsz⟩:=hs;have hio:ops[i]?=some o:=by
      have:=cX (fun l=>l[0]?) hd;simpa using this
     have hf1:uj st.nb t.n1 e:=(hf.new (hL.new.mono (cb _) (cb _)) hL.le).mono (cb _) hmono;have hstep:=chv (F:=F) (m:=m) (Q:=Q) (K:=wpOpsIn F m C.P ops Q (List.range' (i+1) k)) hW hC hT hF hY hV (uY hb hL) hL.good ht hf1 ho1 (fun v w' hD=>by
      obtain⟨e',hL',hx⟩:=hD;refine cef hW hC hT hF hFm hY hYm hb k l (i+1) ⟨t.n1,sl,kX t.ws st.m,st.ms⟩ st1 ob1 (by simpa using hl) ?_ hrest ho2 hf hQ _ _ ⟨⟨e',hL.trans hL',ccs hsz hV hsl hL'.adv.ext hx,rs,by rw[ub,hdf],hmk.ext hL'.adv.ext⟩,by rw[uD,hsz]⟩;rw[← zN,hd];rfl)
     rw[cbl];simp only[wpOpsIn,hio];split at hstep
     ·rename_i hw;rw[co hw];exact hstep
     ·rename_i hw;rw[cg hw];exact⟨fun f _=>hW.fn f,hstep⟩
    ·cases h
   ·cases h
  ·cases h
end
variable {D:Type}
section
variable {F:Fence}{m:Nat}{P:Program}{ops:Array Oper}{Q:Exit->Act->World->Prop}{md:Region.Mode}
def cfe (l:Array Bool):Nat:=(l.toList.filter (fun b=>!b)).length
theorem chK {l:Array Bool}{i:Nat}(h:l[i]?=some false):cfe (l.setIfInBounds i true)+1=cfe l:=by
 obtain⟨xs⟩:=l;unfold cfe;simp only[List.getElem?_toArray] at h;simp only[List.setIfInBounds_toArray]
 induction xs generalizing i with
 |nil=>simp at h
 |cons x xs ih =>
  cases i with
  |zero=>simp at h;subst h;simp
  |succ i =>
   simp at h;have:=ih h;cases x<;>simp [List.set_cons_succ]<;>omega
theorem UA {l:Array Bool}{i:Nat}(hm:i∈Region.ready md ops l):l[i]?=some false:=by
 have h1:=(mem_ready.1 hm).1;have hlt:i<l.size:=by
  rcases jb i l.size with h|h
  ·exact h
  ·simp [YX h] at h1
 rw[KZ hlt];simp [hlt] at h1;rw[h1]
theorem any_inv (Inv:Array Bool->Act->World->Prop)
 (step:∀ l a w i,l.size=ops.size->Inv l a w->i∈Region.ready md ops l->wpOpIn F m P ops Q i (fun a' w'=>Inv (l.setIfInBounds i true) a' w') a w)
 (done:∀ l a w,l.size=ops.size->Inv l a w->Region.ready md ops l=[]->Q .normal a w) :
 ∀ (fuel:Nat) (l:Array Bool) (a:Act) (w:World),l.size=ops.size->cfe l<=fuel->Inv l a w->wpAnyIn F m P md ops Q fuel l a w:=by
 intro fuel
 induction fuel with
 |zero =>
  intro l a w hs hl hi;have hr:Region.ready md ops l=[]:=by
   cases hx:Region.ready md ops l with
   |nil=>rfl
   |cons i is =>
    have hm:i∈Region.ready md ops l:=by rw[hx];simp
    have:=chK (UA hm);omega
  exact⟨hr,done l a w hs hi hr⟩
 |succ fuel ih =>
  intro l a w hs hl hi;refine⟨fun hr=>done l a w hs hi hr,fun i hm=>?_⟩;have h3:=chK (UA hm);exact wpOpIn_mono (fun a' w' h=>ih _ a' w' (by simpa using hs) (by omega) h) (step l a w i hs hi hm)
theorem cpc {l:Array Bool}(hs:l.size=ops.size) (ht:∀ (i:Nat) (o:Oper),ops[i]?=some o->∀ e∈o.after,Region.binds md e=true->e.on<i) (hr:Region.ready md ops l=[]) :
 ∀ i,i<ops.size->l[i]?=some true:=by
 intro i
 induction i using Nat.strongRecOn with
 |ind i ih =>
  intro hi;have hl:i<l.size:=by omega
  rw[KZ hl];cases hb:l[i] with
  |true=>rfl
  |false =>
   exfalso;have hm:i∈Region.ready md ops l:=by
    refine mem_ready.2 ⟨by simp [hl,hb],ops[i],KZ hi,fun e he hbi=>?_⟩;have h1:=ht i ops[i] (KZ hi) e he hbi;have h2:=ih e.on h1 (by omega);simp [h2]
   rw[hr] at hm;cases hm
end
def yT (pres:List Nat):List Edge->Nat
 |[]=>0
 |ed::l=>match Region.binds .any ed with
  |true=>2^ed.on||| pres.getD ed.on 0||| yT pres l
  |false=>yT pres l
def jh:List Nat->List Oper->List Nat
 |acc,[]=>acc
 |acc,o::l=>jh (acc++[yT acc o.after.toList]) l
theorem Ey {pres:List Nat}{j:Nat}:∀ {l:List Edge},(yT pres l).testBit j=true->∃ ed∈l,Region.binds .any ed=true/\(ed.on=j\/(pres.getD ed.on 0).testBit j=true)
 |[],h=>by simp [yT] at h
 |ed::l,h=>by
  unfold yT at h;split at h
  ·rename_i hb;simp only[Nat.testBit_or,Yo] at h;rcases h with(h|h)|h
   ·rw[Nat.testBit_two_pow] at h;exact⟨ed,by simp,hb,.inl (by simpa using h)⟩
   ·exact⟨ed,by simp,hb,.inr h⟩
   ·obtain⟨d,h1,h2⟩:=Ey h;exact⟨d,uH _ h1,h2⟩
  ·obtain⟨d,h1,h2⟩:=Ey h;exact⟨d,uH _ h1,h2⟩
theorem Cb:∀ (l:List Oper) (acc:List Nat),∃ r,jh acc l=acc++r/\r.length=l.length
 |[],acc=>⟨[],by simp [jh],rfl⟩
 |o::l,acc=>by
  obtain⟨r,h1,h2⟩:=Cb l (acc++[yT acc o.after.toList]);exact⟨yT acc o.after.toList::r,by simp [jh,h1],by simp [h2]⟩
theorem Cu:∀ (l:List Oper) (acc:List Nat) (i:Nat) (o:Oper),l[i]?=some o->∀ j,((jh acc l).getD (acc.length+i) 0).testBit j=true->
 ∃ ed∈o.after.toList,Region.binds .any ed=true/\(ed.on=j\/((jh acc l).getD ed.on 0).testBit j=true)
 |[],acc,i,o,h,j,hj=>by simp at h
 |o'::l,acc,0,o,h,j,hj=>by
  simp at h;subst h;obtain⟨r,h1,h2⟩:=Cb l (acc++[yT acc o'.after.toList]);have h3:jh acc (o'::l)=acc++(yT acc o'.after.toList::r):=by simp [jh,h1]
  rw[h3] at hj ⊢;simp at hj;obtain⟨ed,h4,h5,h6⟩:=Ey hj;refine⟨ed,h4,h5,h6.imp (fun h=>h) fun h6=>?_⟩;have hlt:ed.on<acc.length:=by
   rcases jb ed.on acc.length with h|h
   ·exact h
   ·simp [List.getD,yu h] at h6
  simpa [List.getD,KC hlt] using h6
 |o'::l,acc,i+1,o,h,j,hj=>by
  have:=Cu l (acc++[yT acc o'.after.toList]) i o (by simpa using h) j (by
   have h1:acc.length+(i+1)=(acc++[yT acc o'.after.toList]).length+i:=by simp;omega
   rw[← h1];exact hj)
  exact this
def EH:List Oper->Nat->Bool
 |[],_=>true
 |o::l,i=>match o.after.toList.all (fun ed=>match Region.binds .any ed with
  |true=>Nat.blt ed.on i
  |false=>true) with
  |true=>EH l (i+1)
  |false=>false
theorem yP:∀ {l:List Oper}{i:Nat},EH l i=true->∀ j o,l[j]?=some o->∀ ed∈o.after,Region.binds .any ed=true->ed.on<i+j
 |[],i,_,j,o,hj=>by simp at hj
 |x::l,i,h,j,o,hj=>by
  unfold EH at h;split at h
  ·rename_i hx;cases j with
   |zero =>
    simp at hj;subst hj;intro ed hed hb;have:=List.all_eq_true.1 hx ed (by simpa using hed);simp only[hb] at this;simpa using yf this
   |succ j =>
    intro ed hed hb;have:=yP h j o (by simpa using hj) ed hed hb;omega
  ·cases h
theorem pre_lt {ops:List Oper}(h:EH ops 0=true):∀ (i:Nat),i<ops.length->∀ j,((jh [] ops).getD i 0).testBit j=true->j<i:=by
 intro i
 induction i using Nat.strongRecOn with
 |ind i ih =>
  intro hi j hj;obtain⟨ed,h1,h2,h3⟩:=Cu ops [] i ops[i] (jX hi) j (by simpa using hj);have h4:=yP h i ops[i] (jX hi) ed (by simpa using h1) h2;rw[jc] at h4;rcases h3 with rfl|h3
  ·exact h4
  ·exact KW (ih ed.on h4 (KW h4 hi) j h3) h4
def Un (pres:List Nat) (i j:Nat):Bool :=
 match Nat.beq i j with
 |true=>false
 |false=>match (pres.getD i 0).testBit j with
  |true=>false
  |false=>match (pres.getD j 0).testBit i with
   |true=>false
   |false=>true
def memL (k:Nat):List Nat->Bool
 |[]=>false
 |b::l=>match Nat.beq b k with
  |true=>true
  |false=>memL k l
def blksC:AC->List Nat
 |.ptr b _=>[b]
 |.slc b _ _ _=>[b]
 |.gsl b _=>[b]
 |.gso b _ _ _=>[b]
 |.fn b=>[b]
 |.yld b=>[b]
 |_=>[]
def chN:A1->List Nat
 |.one c=>blksC c
 |.agg cs=>cs.flatMap blksC
def cce:Option AV->List Nat
 |some (.val a)=>chN a
 |some (.tup l)=>l.flatMap chN
 |none=>[]
def blksO:Option (ES D)->List Nat
 |some (.blk _ cs _)=>cs.flatMap blksC
 |some (.clo _ pre cap)=>pre.flatMap chN++cap.flatMap chN
 |some (.loop _ sl ..)=>sl.flatMap fun p=>cce (some p.2)
 |some (.ep b ..)=>[b]
 |some (.mp es _)=>es.flatMap fun p=>chN p.2.1
 |_=>[]
def fnsC:AC->List Nat
 |.fn b=>[b]
 |_=>[]
def ccE:Option AV->List Nat
 |some (.val (.one c))=>fnsC c
 |some (.val (.agg cs))=>cs.flatMap fnsC
 |_=>[]
def epsV (M:cL D):Option AV->List Nat
 |some (.val (.one (.fn b)))=>match M b with
  |some (.ep l ..)=>[l]
  |_=>[]
 |_=>[]
def cjx (M:cL D):Nat->List Nat->List Nat->List Nat
 |0,_,seen=>seen
 |_+1,[],seen=>seen
 |n+1,b::l,seen=>match memL b seen with
  |true=>cjx M n l seen
  |false=>cjx M n (blksO (M b)++l) (b::seen)
def looks (V:jp) (M:cL D) (o:Oper):List Nat :=
 match o.op with
 |.load _ x=>cce (cD V x)++epsV M (cD V x)
 |.store _ x y=>cce (cD V x)++(epsV M (cD V x)++ccE (cD V y))
 |.indexAddr _ x _=>ccE (cD V x)
 |.box _ x=>ccE (cD V x)
 |.build _ ps=>ps.toList.flatMap fun p=>ccE (cD V p.2)
 |.buildSlice _ _ ps=>ps.toList.flatMap fun p=>ccE (cD V p.2)
 |.call c=>match c.callee with
  |.builtin .len=>c.args.toList.flatMap fun x=>ccE (cD V x)
  |.builtin _=>c.args.toList.flatMap fun x=>cce (cD V x)
  |.value f=>cjx M 1000 (cce (cD V f)++c.args.toList.flatMap fun x=>cce (cD V x)) []
  |_=>[]
 |.slice _ x ..=>cce (cD V x)
 |.lookup _ x _ _=>ccE (cD V x)
 |.mapUpdate _ x _ y=>ccE (cD V x)++ccE (cD V y)
 |.insert _ x _ y=>ccE (cD V x)++ccE (cD V y)
 |_=>[]
abbrev Acc (D:Type):=List (Nat×Out D)
def jT (p:Nat->Bool) (b:Nat):Acc D->Nat->Option (ES D)->Option (ES D)
 |[],_,cur=>cur
 |t::W,j,cur=>match p j with
  |true=>match find b t.2.ws with
   |some o=>jT p b W (j+1) (some o)
   |none=>jT p b W (j+1) cur
  |false=>jT p b W (j+1) cur
def jn (p:Nat->Bool) (t:Nat):List Oper->Acc D->Nat->Option AV->Option AV
 |o::ops,x::W,j,cur=>match p j with
  |true=>match o.dst with
   |some d=>match Nat.beq d t with
    |true=>jn p t ops W (j+1) (some x.2.x)
    |false=>jn p t ops W (j+1) cur
   |none=>jn p t ops W (j+1) cur
  |false=>jn p t ops W (j+1) cur
 |_,_,_,cur=>cur
def KJ (pres:List Nat) (i t:Nat):List Oper->Nat->Bool
 |[],_=>false
 |o::l,j=>match o.dst with
  |some d=>match Nat.beq d t with
   |true=>match Un pres i j with
    |true=>true
    |false=>KJ pres i t l (j+1)
   |false=>KJ pres i t l (j+1)
  |none=>KJ pres i t l (j+1)
def JI (pres:List Nat) (ops:List Oper) (acc:Acc D) (base:jp) (i:Nat):jp:=fun t =>
 match KJ pres i t ops 0 with
 |true=>none
 |false=>jn (pres.getD i 0).testBit t ops acc 0 (base t)
def cdI (pres:List Nat) (acc:Acc D) (base:cL D) (nb i:Nat):cL D:=fun b =>
 jT (pres.getD i 0).testBit b acc 0 (match Nat.ble nb b with
  |true=>none
  |false=>base b)
def caS (pres:List Nat) (acc:Acc D) (base:cL D) (nb i:Nat) (q:List Nat):cL D:=fun b =>
 match cdI pres acc base nb i b with
 |some (.blk ty cs z)=>match memL b q with
  |false=>none
  |true=>some (.blk ty cs z)
 |some (.gl ty z n g)=>match memL b q with
  |false=>none
  |true=>some (.gl ty z n g)
 |some (.mp es ck)=>match memL b q with
  |false=>none
  |true=>some (.mp es ck)
 |some .dead=>none
 |r=>r
def cbY (S:Stat D) (T:Tab D) (CF YF:cH D) (pres:List Nat) (ops:List Oper) (bs:jp) (bm:cL D) (nb:Nat):List Oper->Nat->Nat->Acc D->Option (Acc D×Nat×List Prop)
 |[],_,n,acc=>some (acc,n,[])
 |o::l,i,n,acc=>match cdf S T CF YF (JI pres ops acc bs i) (caS pres acc bm nb i (looks (JI pres ops acc bs i) (cdI pres acc bm nb i) o)) n ops o with
  |some t=>match cbY S T CF YF pres ops bs bm nb l (i+1) t.n1 (acc++[(n,t)]) with
   |some (W,n',ob)=>some (W,n',t.ob++ob)
   |none=>none
  |none=>none
def cbB (M:cL D) (ws:Ws D):Ws D->Bool
 |[]=>true
 |p::l=>match M p.1 with
  |some _=>false
  |none=>match memN p.1 ws with
   |true=>false
   |false=>cbB M ws l
def UQ (pres:List Nat) (M:cL D) (ws:Ws D) (i:Nat):Acc D->Nat->Bool
 |[],_=>true
 |t::W,j=>match t.2.ws with
  |[]=>UQ pres M ws i W (j+1)
  |p::l=>match Un pres i j with
   |true=>match cbB M ws (p::l) with
    |true=>UQ pres M ws i W (j+1)
    |false=>false
   |false=>UQ pres M ws i W (j+1)
def clL (pres:List Nat) (ops:List Oper) (W:Acc D) (bs:jp) (bm:cL D) (nb:Nat):List Oper->Acc D->Nat->Bool
 |o::l,t::W',i=>match (match o.dst with
  |some d=>KJ pres i d ops 0
  |none=>false) with
  |true=>false
  |false=>match UQ pres (caS pres W bm nb i (looks (JI pres ops W bs i) (cdI pres W bm nb i) o)) t.2.ws i W 0 with
   |true=>clL pres ops W bs bm nb l W' (i+1)
   |false=>false
 |[],[],_=>true
 |_,_,_=>false
def Uj (nt:Nat):List Oper->Acc D->List (Nat×AV)->Option (List (Nat×AV))
 |o::l,t::W,sl=>match cfx nt o.dst t.2.x sl with
  |some sl'=>Uj nt l W sl'
  |none=>none
 |_,_,sl=>some sl
def ccN:Acc D->Ws D->Ws D
 |[],m=>m
 |t::W,m=>ccN W (kX t.2.ws m)
def YE (S:Stat D) (T:Tab D) (CF YF:cH D) (nt:Nat) (base:cL D) (ops:List Oper) (st:St D):Option (St D×List Prop) :=
 match EH ops 0 with
 |false=>none
 |true=>match cbY S T CF YF (jh [] ops) ops (fun t=>find t st.sl) (over base st.m) st.nb ops 0 st.nb [] with
  |none=>none
  |some (W,n,ob)=>match clL (jh [] ops) ops W (fun t=>find t st.sl) (over base st.m) st.nb ops W 0 with
   |false=>none
   |true=>match Uj nt ops W st.sl with
    |some sl=>some (⟨n,sl,kX (ccN W []) st.m,st.ms⟩,ob)
    |none=>none
section
variable {pres:List Nat}
theorem cih {i j:Nat}(h:Un pres i j=false):i=j\/(pres.getD i 0).testBit j=true\/(pres.getD j 0).testBit i=true:=by
 unfold Un at h;split at h
 ·rename_i hb;exact .inl (ct hb)
 ·split at h
  ·rename_i hb;exact .inr (.inl hb)
  ·split at h
   ·rename_i hb;exact .inr (.inr hb)
   ·cases h
theorem ciM {i j:Nat}(h1:i≠j) (h2:(pres.getD i 0).testBit j=false) (h3:(pres.getD j 0).testBit i=false):Un pres i j=true:=by
 unfold Un;have:Nat.beq i j=false:=by
  cases h:Nat.beq i j with
  |false=>rfl
  |true=>exact absurd (ct h) h1
 simp [this];rw[List.getD] at h2 h3;simp [h2,h3]
theorem GW {p:Nat->Bool}{b:Nat}:∀ {W:Acc D}{j:Nat}{cur:Option (ES D)},jT p b W j cur=(match jT p b W j none with|some o=>some o|none=>cur)
 |[],j,cur=>rfl
 |t::W,j,cur=>by
  unfold jT;split
  ·split
   ·rw[GW];cases jT p b W (j+1) none<;>rfl
   ·exact GW
  ·exact GW
theorem CT {p q:Nat->Bool}{b:Nat}:∀ {W:Acc D}{j:Nat}{cur:Option (ES D)},(∀ x t,W[x]?=some t->find b t.2.ws≠none->p (j+x)=q (j+x))->jT p b W j cur=jT q b W j cur
 |[],j,cur,_=>rfl
 |t::W,j,cur,h=>by
  have hr:∀ cur,jT p b W (j+1) cur=jT q b W (j+1) cur:=fun cur=>CT (fun x t' hx hf=>by
   have:=h (x+1) t' (by simpa using hx) hf;rw[show j+1+x=j+(x+1) by omega];exact this)
  unfold jT;cases hf:find b t.2.ws with
  |none =>
   simp only[];rw[hr];cases p j<;>cases q j<;>rfl
  |some o =>
   have:=h 0 t (by simp) (by rw[hf];simp);rw[kb] at this;rw[this];simp only[];rw[hr,hr]
theorem caM {p:Nat->Bool}{b:Nat}:∀ {W:Acc D}{j i:Nat}{cur:Option (ES D)},(∀ x,j+i<=x->p x=false)->jT p b (W.take i) j cur=jT p b W j cur
 |[],j,i,cur,_=>by simp
 |t::W,j,0,cur,h=>by
  have:∀ (W:Acc D) (j:Nat),(∀ x,j<=x->p x=false)->jT p b W j cur=cur:=by
   intro W
   induction W with
   |nil=>intro j _;rfl
   |cons t W ih =>
    intro j hj;unfold jT;rw[hj j (cb _)];exact ih (j+1) (fun x hx=>hj x (by omega))
  rw[this (t::W) j (fun x hx=>h x (by omega))];rfl
 |t::W,j,i+1,cur,h=>by
  have hr:∀ cur,jT p b (W.take i) (j+1) cur=jT p b W (j+1) cur:=fun cur=>caM (fun x hx=>h x (by omega));rw[WG];unfold jT;simp only[hr]
theorem cht {p:Nat->Bool}{b i:Nat}{o:ES D}:∀ {W:Acc D}{j:Nat}{cur:Option (ES D)}{t:Nat×Out D},W[i]?=some t->p (j+i)=true->find b t.2.ws=some o->(∀ x t',i<x->W[x]?=some t'->p (j+x)=true->find b t'.2.ws=none)->jT p b W j cur=some o:=by
 intro W
 induction W generalizing i with
 |nil=>intro j cur t h;simp at h
 |cons t0 W ih =>
  intro j cur t h hp hf hx;cases i with
  |zero =>
   simp at h;subst h;unfold jT;rw[kb] at hp;rw[hp,hf];simp only[];have:∀ (W:Acc D) (j:Nat) (cur:Option (ES D)),(∀ x t',W[x]?=some t'->p (j+x)=true->find b t'.2.ws=none)->jT p b W j cur=cur:=by
    intro W
    induction W with
    |nil=>intro j cur _;rfl
    |cons t W ih =>
     intro j cur hj;unfold jT;have hr:=ih (j+1) cur (fun x t' h1 h2=>hj (x+1) t' (by simpa using h1) (by rw[show j+(x+1)=j+1+x by omega];exact h2));cases hpj:p j with
     |true =>
      have:=hj 0 t (by simp) (by simpa using hpj);simp only[this];exact hr
     |false=>exact hr
   exact this W (j+1) _ (fun x t' h1 h2=>hx (x+1) t' (by omega) (by simpa using h1) (by rw[show j+(x+1)=j+1+x by omega];exact h2))
  |succ i =>
   have hr:∀ cur,jT p b W (j+1) cur=some o:=fun cur=>ih (by simpa using h) (by rw[show j+1+i=j+(i+1) by omega];exact hp) hf (fun x t' h1 h2 h3=>hx (x+1) t' (by omega) (by simpa using h2) (by rw[show j+(x+1)=j+1+x by omega];exact h3));unfold jT;simp only[hr];cases p j<;>simp only[]<;>cases find b t0.2.ws<;>rfl
theorem EL {p q:Nat->Bool}{t:Nat}:∀ {ops:List Oper}{W:Acc D}{j:Nat}{cur:Option AV},(∀ x o,ops[x]?=some o->o.dst=some t->p (j+x)=q (j+x))->jn p t ops W j cur=jn q t ops W j cur
 |[],W,j,cur,_=>by simp [jn]
 |o::ops,[],j,cur,_=>by simp [jn]
 |o::ops,x::W,j,cur,h=>by
  have hr:∀ cur,jn p t ops W (j+1) cur=jn q t ops W (j+1) cur:=fun cur=>EL (fun x o' hx hd=>by
   have:=h (x+1) o' (by simpa using hx) hd;rw[show j+1+x=j+(x+1) by omega];exact this)
  unfold jn;simp only[hr];cases hd:o.dst with
  |none=>simp only[];cases p j<;>cases q j<;>rfl
  |some d =>
   simp only[];cases hb:Nat.beq d t with
   |true =>
    have:=h 0 o (by simp) (by rw[hd,ct hb]);rw[kb] at this;rw[this]
   |false=>simp only[];cases p j<;>cases q j<;>rfl
theorem KX {p:Nat->Bool}{t:Nat}:∀ {ops:List Oper}{W:Acc D}{j i:Nat}{cur:Option AV},(∀ x,j+i<=x->p x=false)->jn p t ops (W.take i) j cur=jn p t ops W j cur
 |[],W,j,i,cur,_=>by simp [jn]
 |o::ops,[],j,i,cur,_=>by simp [jn]
 |o::ops,x::W,j,0,cur,h=>by
  have:∀ (ops:List Oper) (W:Acc D) (j:Nat),(∀ x,j<=x->p x=false)->jn p t ops W j cur=cur:=by
   intro ops
   induction ops with
   |nil=>intro W j _;simp [jn]
   |cons o ops ih =>
    intro W j hj;cases W with
    |nil=>simp [jn]
    |cons x W =>
     unfold jn;rw[hj j (cb _)];exact ih W (j+1) (fun x hx=>hj x (by omega))
  rw[this (o::ops) (x::W) j (fun x hx=>h x (by omega))];simp [jn]
 |o::ops,x::W,j,i+1,cur,h=>by
  have hr:∀ cur,jn p t ops (W.take i) (j+1) cur=jn p t ops W (j+1) cur:=fun cur=>KX (fun x hx=>h x (by omega));rw[WG];unfold jn;simp only[hr]
theorem cgj {p:Nat->Bool}{t i:Nat}{o:Oper}{x:Nat×Out D}:∀ {ops:List Oper}{W:Acc D}{j:Nat}{cur:Option AV},ops[i]?=some o->W[i]?=some x->p (j+i)=true->o.dst=some t->(∀ y o',i<y->ops[y]?=some o'->p (j+y)=true->o'.dst≠some t)->jn p t ops W j cur=some x.2.x:=by
 intro ops
 induction ops generalizing i with
 |nil=>intro W j cur h;simp at h
 |cons o0 ops ih =>
  intro W j cur h hw hp hd hx;cases W with
  |nil=>simp at hw
  |cons w0 W =>
   cases i with
   |zero =>
    simp at h hw;subst h;subst hw;unfold jn;rw[kb] at hp;rw[hp,hd];simp only[Nat.beq_refl];have:∀ (ops:List Oper) (W:Acc D) (j:Nat) (cur:Option AV),(∀ y o',ops[y]?=some o'->p (j+y)=true->o'.dst≠some t)->jn p t ops W j cur=cur:=by
     intro ops
     induction ops with
     |nil=>intro W j cur _;simp [jn]
     |cons o ops ih =>
      intro W j cur hj;cases W with
      |nil=>simp [jn]
      |cons x W =>
       unfold jn;have hr:=ih W (j+1) cur (fun y o' h1 h2=>hj (y+1) o' (by simpa using h1) (by rw[show j+(y+1)=j+1+y by omega];exact h2));cases hpj:p j with
       |true =>
        have:=hj 0 o (by simp) (by simpa using hpj);simp only[];cases hod:o.dst with
        |none=>exact hr
        |some d =>
         simp only[];cases hb:Nat.beq d t with
         |true=>exact absurd (by rw[hod,ct hb]) this
         |false=>exact hr
       |false=>exact hr
    exact this ops W (j+1) _ (fun y o' h1 h2=>hx (y+1) o' (by omega) (by simpa using h1) (by rw[show j+(y+1)=j+1+y by omega];exact h2))
   |succ i =>
    have hr:∀ cur,jn p t ops W (j+1) cur=some x.2.x:=fun cur=>ih (by simpa using h) (by simpa using hw) (by rw[show j+1+i=j+(i+1) by omega];exact hp) hd (fun y o' h1 h2 h3=>hx (y+1) o' (by omega) (by simpa using h2) (by rw[show j+(y+1)=j+1+y by omega];exact h3));unfold jn;simp only[hr];cases p j<;>simp only[];cases o0.dst with
    |none=>rfl
    |some d=>simp only[];cases Nat.beq d t<;>rfl
theorem KO {i t:Nat}:∀ {l:List Oper}{j:Nat},KJ pres i t l j=false->∀ x o,l[x]?=some o->o.dst=some t->Un pres i (j+x)=false
 |[],j,_,x,o,h=>by simp at h
 |o0::l,j,hc,x,o,h=>by
  intro hd;unfold KJ at hc;cases x with
  |zero =>
   simp at h;subst h;rw[hd] at hc;simp only[Nat.beq_refl] at hc;rw[kb];split at hc
   ·cases hc
   ·rename_i hu;exact hu
  |succ x =>
   have hr:KJ pres i t l (j+1)=false:=by
    split at hc
    ·split at hc
     ·split at hc
      ·cases hc
      ·exact hc
     ·exact hc
    ·exact hc
   have:=KO hr x o (by simpa using h) hd;rw[show j+(x+1)=j+1+x by omega];exact this
theorem ccK {M:cL D}{ws:Ws D}:∀ {l:Ws D},cbB M ws l=true->∀ b,find b l≠none->M b=none/\find b ws=none
 |[],_,b,h=>by simp [jj,cS] at h
 |p::l,hc,b,h=>by
  unfold cbB at hc;split at hc
  ·cases hc
  ·rename_i hM;split at hc
   ·cases hc
   ·rename_i hm;by_cases hb:p.1=b
    ·subst hb;exact⟨hM,cdP hm⟩
    ·have hb':Nat.beq p.1 b=false:=by
      cases h:Nat.beq p.1 b with
      |false=>rfl
      |true=>exact absurd (ct h) hb
     simp only[jj,cS,hb'] at h;exact ccK hc b h
theorem ceV {M:cL D}{ws:Ws D}{i:Nat}:∀ {W:Acc D}{j:Nat},UQ pres M ws i W j=true->∀ x t,W[x]?=some t->Un pres i (j+x)=true->∀ b,find b t.2.ws≠none->M b=none/\find b ws=none
 |[],j,_,x,t,h=>by simp at h
 |t0::W,j,hp,x,t,h=>by
  intro hu;unfold UQ at hp;cases x with
  |zero =>
   simp at h;subst h;rw[kb] at hu;split at hp
   ·rename_i he;intro b hb;rw[he] at hb;exact absurd rfl hb
   ·rename_i p l he;rw[hu] at hp;simp only at hp;split at hp
    ·rename_i hc;rw[he];exact ccK hc
    ·cases hp
  |succ x =>
   have hr:UQ pres M ws i W (j+1)=true:=by
    split at hp
    ·exact hp
    ·split at hp
     ·split at hp
      ·exact hp
      ·cases hp
     ·exact hp
   exact ceV hr x t (by simpa using h) (by rw[show j+1+x=j+(x+1) by omega];exact hu)
theorem cgZ {ops:List Oper}{W:Acc D}{bs:jp}{bm:cL D}{nb:Nat}:∀ {l:List Oper}{W':Acc D}{i:Nat},clL pres ops W bs bm nb l W' i=true->∀ x o t,l[x]?=some o->W'[x]?=some t->(∀ d,o.dst=some d->KJ pres (i+x) d ops 0=false)/\UQ pres (caS pres W bm nb (i+x) (looks (JI pres ops W bs (i+x)) (cdI pres W bm nb (i+x)) o)) t.2.ws (i+x) W 0=true
 |[],W',i,_,x,o,t,h=>by simp at h
 |o0::l,[],i,_,x,o,t,h=>by intro h2;simp at h2
 |o0::l,t0::W',i,hp,x,o,t,h=>by
  intro h2;unfold clL at hp;split at hp
  ·cases hp
  ·rename_i hd;split at hp
   ·rename_i hpi;cases x with
    |zero =>
     simp at h h2;subst h;subst h2;rw[kb];exact⟨fun d hd'=>by rw[hd'] at hd;exact hd,hpi⟩
    |succ x =>
     have:=cgZ hp x o t (by simpa using h) (by simpa using h2);rw[show i+(x+1)=i+1+x by omega];exact this
   ·cases hp
theorem cdX {b:Nat}:∀ {W:Acc D}{j:Nat}{m:Ws D},find b (ccN W m)=(match jT (fun _=>true) b W j none with|some o=>some o|none=>find b m)
 |[],j,m=>rfl
 |t::W,j,m=>by
  unfold ccN jT;rw[cdX (j:=j+1),EB];simp only[];cases hf:find b t.2.ws with
  |none=>rfl
  |some o =>
   simp only[];rw[GW (cur:=some o)];cases jT (fun _=>true) b W (j+1) none<;>rfl
def ZH (dst:Option Tmp) (x:AV) (t:Nat) (cur:Option AV):Option AV :=
 match dst with
 |some d=>match Nat.beq d t with
  |true=>some x
  |false=>cur
 |none=>cur
theorem clY {nt:Nat}{dst:Option Tmp}{x:AV}{sl sl':List (Nat×AV)}(h:cfx nt dst x sl=some sl') (t:Nat):find t sl'=ZH dst x t (find t sl):=by
 unfold cfx at h;unfold ZH;cases dst with
 |none=>injection h with h;subst h;rfl
 |some d =>
  simp only at h;split at h
  ·injection h with h;subst h
   rw[EB];simp only[jj,cS];cases Nat.beq d t<;>rfl
  ·cases h
theorem caN {nt:Nat}{t:Nat}:∀ {l:List Oper}{W:Acc D}{j:Nat}{sl sl':List (Nat×AV)},Uj nt l W sl=some sl'->find t sl'=jn (fun _=>true) t l W j (find t sl)
 |[],W,j,sl,sl',h=>by
  simp only[Uj,kD] at h;subst h;simp [jn]
 |o::l,[],j,sl,sl',h=>by
  simp only[Uj,kD] at h;subst h;simp [jn]
 |o::l,x::W,j,sl,sl',h=>by
  simp only[Uj] at h;split at h
  ·rename_i sl1 hs;rw[caN (j:=j+1) h,clY hs];unfold ZH
   conv=>rhs;unfold jn
   simp only[];cases o.dst with
   |none=>rfl
   |some d=>simp only[];cases Nat.beq d t<;>rfl
  ·cases h
theorem cem {nt:Nat}:∀ {l:List Oper}{W:Acc D}{sl sl':List (Nat×AV)},Uj nt l W sl=some sl'->∀ (x:Nat) (o:Oper) (t:Nat×Out D),l[x]?=some o->W[x]?=some t->∀ d,o.dst=some d->d<nt
 |[],W,sl,sl',_,x,o,t,h=>by simp at h
 |o0::l,[],sl,sl',_,x,o,t,h=>by intro h2;simp at h2
 |o0::l,x0::W,sl,sl',hp,x,o,t,h=>by
  intro h2 d hd;simp only[Uj] at hp;split at hp
  ·rename_i sl1 hs;cases x with
   |zero =>
    simp at h;subst h;unfold cfx at hs;rw[hd] at hs;simp only at hs;split at hs
    ·rename_i hlt;exact yf hlt
    ·cases hs
   |succ x=>exact cem hp x o t (by simpa using h) (by simpa using h2) d hd
  ·cases hp
end
variable {D:Type}
section
variable {S:Stat D}{T:Tab D}{CF YF:cH D}{pres:List Nat}{ops:List Oper}{bs:jp}{bm:cL D}{nb:Nat}
theorem Wa (hF:CF.Mono) (hYF:YF.Mono):∀ {l:List Oper}{i n n':Nat}{acc W:Acc D}{ob:List Prop},cbY S T CF YF pres ops bs bm nb l i n acc=some (W,n',ob)->acc.length=i->
 (∃ r,W=acc++r)/\W.length=i+l.length/\n<=n'/\
 (∀ j o,l[j]?=some o->∃ n1 t,W[i+j]?=some (n1,t)/\cdf S T CF YF (JI pres ops (W.take (i+j)) bs (i+j)) (caS pres (W.take (i+j)) bm nb (i+j) (looks (JI pres ops (W.take (i+j)) bs (i+j)) (cdI pres (W.take (i+j)) bm nb (i+j)) o)) n1 ops o=some t/\n<=n1/\t.n1<=n'/\(jC ob->jC t.ob))/\
 (∀ (j k:Nat) (tj tk:Nat×Out D),i<=j->j<k->W[j]?=some tj->W[k]?=some tk->tj.2.n1<=tk.1)
 |[],i,n,n',acc,W,ob,h,hl=>by
  simp only[cbY,kD,cr] at h;obtain⟨rfl,rfl,rfl⟩:=h;refine⟨⟨[],by simp⟩,by simp [hl],cb _,fun j o h=>by simp at h,fun j k tj tk hij hjk hj hk=>?_⟩;have:=(List.getElem?_eq_some_iff.1 hj).1;omega
 |o::l,i,n,n',acc,W,ob,h,hl=>by
  simp only[cbY] at h;split at h
  ·rename_i t ht;split at h
   ·rename_i W1 n1 ob1 hrest;injection h with h
    simp only[cr] at h;obtain⟨rfl,rfl,rfl⟩:=h;obtain⟨⟨r,hr⟩,h2,h3,h4,h5⟩:=Wa hF hYF hrest (by simp [hl]);have hle:=cgM hF hYF ht;have hWi:W1[i]?=some (n,t):=by
     rw[hr,yF,cai (by omega)];simp [hl]
    have htk:W1.take i=acc:=by
     rw[hr,yF,Zn (by omega),ku (by omega)]
    refine⟨⟨(n,t)::r,by rw[hr];simp⟩,by rw[h2];simp;omega,cB hle h3,?_,?_⟩
    ·intro j o' hj;cases j with
     |zero =>
      simp at hj;subst hj;refine⟨n,t,hWi,?_,cb _,h3,fun ha=>(jC.append ha).1⟩;rw[kb,htk];exact ht
     |succ j =>
      obtain⟨n2,t2,q1,q2,q3,q4,q5⟩:=h4 j o' (by simpa using hj);rw[show i+1+j=i+(j+1) by omega] at q1 q2;exact⟨n2,t2,q1,q2,by omega,q4,fun ha=>q5 (jC.append ha).2⟩
    ·intro j k tj tk hij hjk hj hk;rcases jb i j with hlt|hge
     ·exact h5 j k tj tk hlt hjk hj hk
     ·have:j=i:=by omega
      subst this;rw[hWi] at hj;injection hj with hj
      subst hj;obtain⟨x,rfl⟩:∃ x,k=j+1+x:=⟨k-(j+1),by omega⟩;have hx:x<l.length:=by
       have:=(List.getElem?_eq_some_iff.1 hk).1;omega
      obtain⟨n2,t2,q1,q2,q3,q4,q5⟩:=h4 x l[x] (jX hx);rw[hk] at q1;injection q1 with q1
      subst q1;exact q3
   ·cases h
  ·cases h
end
structure Inv (C : Ctx D) (nt : Nat) (e : Env) (w : World) (ops : Array Oper) (W : Acc D) (base : jp) (ds : List Deferred) (l : Array Bool) (a' : Act) (w' : World) : Prop where
  size : l.size = ops.size
  down : ∀ i, l.getD i false = true → ∀ j, ((jh [] ops.toList).getD i 0).testBit j = true → l.getD j false = true
  defers : a'.defers = ds
  tmps : a'.tmps.size = nt
  ex : ∃ e', Adv e w e' w' ∧ jm C e' w' ∧
    ((∀ b k, e'.ρ b = some k → e.ρ b = some k ∨ ∃ j t, W[j]? = some t ∧ l.getD j false = true ∧ t.1 ≤ b ∧ b < t.2.n1) ∧
     (∀ b k, e'.ν b = some k → e.ν b = some k ∨ ∃ j t, W[j]? = some t ∧ l.getD j false = true ∧ t.1 ≤ b ∧ b < t.2.n1) ∧
     (∀ b k, e'.φ b = some k → e.φ b = some k ∨ ∃ j t, W[j]? = some t ∧ l.getD j false = true ∧ t.1 ≤ b ∧ b < t.2.n1)) ∧
    (∀ b o, jT (fun j => l.getD j false) b W 0 none = some o → kz C e' w' b o) ∧
    (∀ b o, kz C e w b o → jT (fun j => l.getD j false) b W 0 none = none → kz C e' w' b o) ∧
    jw e' a' (fun t => jn (fun j => l.getD j false) t ops.toList W 0 (base t))
theorem kQ {l:Array Bool}{i j:Nat}(hi:i<l.size):(l.setIfInBounds i true).getD j false=if j=i then true else l.getD j false:=by
 simp only[uQ,ccH];by_cases h:j=i
 ·subst h;simp [hi]
 ·rw[cg (fun e=>h e.symm),cg h]
section
variable {F:Fence}{m:Nat}
variable {C:Ctx D}{e0 e:Env}{w0 w w':World}{a:Act}{T:Tab D}{CF YF:cH D}{n0 nt:Nat}{base:cL D}{Q:Exit->Act->World->Prop}{ops:Array Oper}
theorem cjr (hW:Wd F) (hC:C.Ok) (hT:T.Ok C) (hF:CF.Ok C) (hFm:CF.Mono) (hY:zI C YF) (hYm:YF.Mono) (hb:jk C e0 w0 base) {rid:Nat}{st st':St D}{ob:List Prop}(h:YE C.toStat T CF YF nt base ops.toList st=some (st',ob)) (ho:jC ob) (hf:uj n0 st'.nb e0)
 (hQ:∀ a w,Sat C nt e0 w0 n0 st' a w->Q .normal a w) {a:Act} {w:World} (hs:Sat C nt e0 w0 n0 st a w):(Code.region rid ops true).wpIn F m C.P Q a w:=by
 unfold YE at h;split at h
 ·cases h
 rename_i hord;split at h
 ·cases h
 rename_i W n ob' hgo;split at h
 ·cases h
 rename_i hpairs;split at h
 rotate_left
 ·cases h
 rename_i sl hput;injection h with h
 injection h with h h'
 subst h;subst h';obtain⟨_,hWl,hnn,hWs,hdis⟩:=Wa hFm hYm hgo rfl;simp only[jc] at hWl hWs;obtain⟨⟨e,hL,hV,rs,hdf,hmk⟩,hsz⟩:=hs;have hlen:ops.toList.length=ops.size:=by simp
 have hbd:Below w.heap.size w { w with drawn:=w.drawn+1 }:=⟨rfl,rfl,rfl,cb _,fun _ _=>rfl⟩;have hLd:uE C e0 w0 n0 st.nb st.m e { w with drawn:=w.drawn+1 }:=by
  have:=hL.trans (uE.below hL.good hbd st.nb);exact this
 generalize hwd:({ w with drawn:=w.drawn+1 }:World)=wd at hLd;have hM:=uY hb hLd;have hFree:uj st.nb n e:=(hf.new (hLd.new.mono (cb _) (cb _)) hLd.le);refine wpIn_region_any hC.mixed ?_;rw[hwd];refine any_inv (Inv C nt e wd ops W (fun t=>find t st.sl) a.defers) ?_ ?_ ops.size _ a _ (by simp) (by unfold cfe;simp) ?_
 ·-- a step
  intro l a1 w1 i hls hI hrdy;obtain⟨hsz1,hdown,hdf1,htm1,e1,hadv,hgood,⟨hρ,hν,hφ⟩,hw1,hk1,hs1⟩:=hI;have hfalse':=UA hrdy;have hil:i<l.size:=by
   rcases jb i l.size with h|h
   ·exact h
   ·simp [YX h] at hfalse'
  have hfalse:l.getD i false=false:=by simp [uQ,hfalse']
  obtain⟨_,o,hio,hr⟩:=mem_ready.1 hrdy;have hiol:ops.toList[i]?=some o:=by simpa using hio
  obtain⟨ni,t,hWi,hstep,hni,hti,hobt⟩:=hWs i o hiol;obtain⟨hclash,hpi⟩:=cgZ hpairs i o (ni,t) hiol hWi;simp only[jc] at hclash hpi;have hpi:=fun x t' h1 h2=>ceV hpi x t' h1 (by simpa using h2);have hilen:i<ops.toList.length:=by omega
  have hpre:∀ j,((jh [] ops.toList).getD i 0).testBit j=true->l.getD j false=true:=by
   intro j hj;obtain⟨ed,h4,h5,h6⟩:=Cu ops.toList [] i o hiol j (by simpa using hj);have h7:=hr ed (by simpa using h4) h5;rcases h6 with rfl|h6
   ·exact h7
   ·exact hdown ed.on h7 j h6
  have hpost:∀ j,((jh [] ops.toList).getD j 0).testBit i=true->l.getD j false=false:=by
   intro j hj;cases hlj:l.getD j false with
   |false=>rfl
   |true =>
    have:=hdown j hlj i hj;rw[hfalse] at this;cases this
  have hpii:∀ x,i<=x->((jh [] ops.toList).getD i 0).testBit x=false:=by
   intro x hx;cases hb:((jh [] ops.toList).getD i 0).testBit x with
   |false=>rfl
   |true=>have:=pre_lt hord i hilen x hb;omega
  have hcong:∀ j,Un (jh [] ops.toList) i j=false->((jh [] ops.toList).getD i 0).testBit j=l.getD j false:=by
   intro j hu;rcases cih hu with h|h|h
   ·subst h;rw[hfalse,hpii i (cb _)]
   ·rw[h,hpre j h]
   ·rw[hpost j h];cases hb:((jh [] ops.toList).getD i 0).testBit j with
    |false=>rfl
    |true =>
     have h1:=hpre j hb;rw[hpost j h] at h1;cases h1
  have hVi:jw e1 a1 (JI (jh [] ops.toList) ops.toList (W.take i) (fun t=>find t st.sl) i):=by
   intro tt x hx;unfold JI at hx;split at hx
   ·cases hx
   ·rename_i hcl;rw[KX (fun x hx=>hpii x (by omega))] at hx;rw[EL (q:=fun j=>l.getD j false) (fun x o' h1 h2=>by
     have:=KO hcl x o' h1 h2;rw[jc] at this ⊢;exact hcong x this)] at hx
    exact hs1 tt x hx
  have hraw:cdI (jh [] ops.toList) (W.take i) (over base st.m) st.nb i=cdI (jh [] ops.toList) W (over base st.m) st.nb i:=by
   funext b;exact caM (fun x hx=>hpii x (by omega))
  have hvs:JI (jh [] ops.toList) ops.toList (W.take i) (fun t=>find t st.sl) i=JI (jh [] ops.toList) ops.toList W (fun t=>find t st.sl) i:=by
   funext t;unfold JI;split
   ·rfl
   ·exact KX (fun x hx=>hpii x (by omega))
  have hMi:jk C e1 w1 (caS (jh [] ops.toList) (W.take i) (over base st.m) st.nb i (looks (JI (jh [] ops.toList) ops.toList (W.take i) (fun t=>find t st.sl) i) (cdI (jh [] ops.toList) (W.take i) (over base st.m) st.nb i) o)):=by
   intro b ob1 hob;rw[hvs,hraw] at hob;have hnone:caS (jh [] ops.toList) W (over base st.m) st.nb i (looks (JI (jh [] ops.toList) ops.toList W (fun t=>find t st.sl) i) (cdI (jh [] ops.toList) W (over base st.m) st.nb i) o) b=some ob1:=by
    unfold caS at hob ⊢
    rwa [hraw] at hob
   have hcl:∀ x t',W[x]?=some t'->find b t'.2.ws≠none->((jh [] ops.toList).getD i 0).testBit (0+x)=l.getD (0+x) false:=by
    intro x t' h1 h2;rw[jc];cases hu:Un (jh [] ops.toList) i x with
    |false=>exact hcong x hu
    |true =>
     have:=(hpi x t' h1 hu b h2).1;rw[hnone] at this;cases this
   have hg:jT ((jh [] ops.toList).getD i 0).testBit b W 0 (match Nat.ble st.nb b with|true=>none|false=>over base st.m b)=some ob1:=by
    unfold caS cdI at hnone;split at hnone
    ·rename_i ty cs z hq;split at hnone
     ·cases hnone
     ·injection hnone with hnone;subst hnone;exact hq
    ·rename_i ty z n g hq;split at hnone
     ·cases hnone
     ·injection hnone with hnone;subst hnone;exact hq
    ·rename_i es ck hq;split at hnone
     ·cases hnone
     ·injection hnone with hnone;subst hnone;exact hq
    ·cases hnone
    ·exact hnone
   rw[GW] at hg;split at hg
   ·rename_i o2 ho2;injection hg with hg;subst hg
    rw[CT (q:=fun j=>l.getD j false) hcl] at ho2;exact hw1 b _ ho2
   ·rename_i hn;rw[CT (q:=fun j=>l.getD j false) hcl] at hn;split at hg
    ·cases hg
    ·exact hk1 b ob1 (hM b ob1 hg) hn
  have hfree:uj ni t.n1 e1:=by
   intro b h1 h2;obtain⟨q1,q2,q3⟩:=hFree b (by omega) (by omega);have hno:¬ ∃ j t',W[j]?=some t'/\l.getD j false=true/\t'.1<=b/\b<t'.2.n1:=by
    rintro⟨j,t',r1,r2,r3,r4⟩;rcases KF j i with hj|hj|hj
    ·have:=hdis j i t' (ni,t) (ju _) hj r1 hWi;simp only at this;omega
    ·subst hj;rw[hfalse] at r2;cases r2
    ·have:=hdis i j (ni,t) t' (ju _) hj hWi r1;simp only at this;omega
   refine⟨?_,?_,?_⟩
   ·cases hx:e1.ρ b with
    |none=>rfl
    |some x=>rcases hρ b x hx with h|h;(rw[q1] at h;cases h);exact absurd h hno
   ·cases hx:e1.ν b with
    |none=>rfl
    |some x=>rcases hν b x hx with h|h;(rw[q2] at h;cases h);exact absurd h hno
   ·cases hx:e1.φ b with
    |none=>rfl
    |some x=>rcases hφ b x hx with h|h;(rw[q3] at h;cases h);exact absurd h hno
  have hres:=chv (F:=F) (m:=m) (Q:=Q) (K:=fun a' w'=>Inv C nt e wd ops W (fun t=>find t st.sl) a.defers (l.setIfInBounds i true) a' w') hW hC hT hF hY hVi hMi hgood hstep hfree (hobt ho) (fun v w2 hD=>by
   obtain⟨e2,hL2,hx2⟩:=hD;have hrng:∀ b,(ni<=b/\b<t.n1)->∃ j t',W[j]?=some t'/\(l.setIfInBounds i true).getD j false=true/\t'.1<=b/\b<t'.2.n1:=fun b hb=>⟨i,(ni,t),hWi,by rw[kQ hil,co rfl],hb.1,hb.2⟩;have hkeep:∀ b,(∃ j t',W[j]?=some t'/\l.getD j false=true/\t'.1<=b/\b<t'.2.n1)->∃ j t',W[j]?=some t'/\(l.setIfInBounds i true).getD j false=true/\t'.1<=b/\b<t'.2.n1:=by
    rintro b ⟨j,t',r1,r2,r3⟩;refine⟨j,t',r1,?_,r3⟩;rw[kQ hil];split
    ·rfl
    ·exact r2
   have hgs:∀ b o2,find b t.ws=some o2->jT (fun j=>(l.setIfInBounds i true).getD j false) b W 0 none=some o2:=by
    intro b o2 hfb;refine cht hWi (by simp only[jc];rw[kQ hil,co rfl]) hfb ?_;intro x t' hx hWx hlx;rw[jc,kQ hil,cg (by omega)] at hlx;cases hfx:find b t'.2.ws with
    |none=>rfl
    |some o3 =>
     have hu:Un (jh [] ops.toList) i x=true:=by
      refine ciM (by omega) (hpii x (by omega)) ?_;cases hb:((jh [] ops.toList).getD x 0).testBit i with
      |false=>rfl
      |true=>rw[hpost x hb] at hlx;cases hlx
     have:=(hpi x t' hWx hu b (by rw[hfx];simp)).2;rw[hfb] at this;cases this
   have hgn:∀ b,find b t.ws=none->jT (fun j=>(l.setIfInBounds i true).getD j false) b W 0 none=jT (fun j=>l.getD j false) b W 0 none:=by
    intro b hfb;refine CT (fun x t' h1 h2=>?_);simp only[jc];rw[kQ hil];split
    ·rename_i hxi;subst hxi;rw[hWi] at h1;injection h1 with h1
     subst h1;exact absurd hfb h2
    ·rfl
   refine⟨by simpa using hsz1,?_,by rw[ub,hdf1],by rw[uD,htm1],e2,hadv.trans hL2.adv,hL2.good,⟨?_,?_,?_⟩,?_,?_,?_⟩
   ·intro x hxl j hj;rw[kQ hil] at hxl ⊢;by_cases hji:j=i
    ·rw[co hji]
    ·rw[cg hji];by_cases hxi:x=i
     ·subst hxi;exact hpre j hj
     ·rw[cg hxi] at hxl;exact hdown x hxl j hj
   ·intro b k hbk;rcases hL2.new.ρ b k hbk with h|h
    ·exact(hρ b k h).imp id (hkeep b)
    ·exact .inr (hrng b h)
   ·intro b k hbk;rcases hL2.new.ν b k hbk with h|h
    ·exact(hν b k h).imp id (hkeep b)
    ·exact .inr (hrng b h)
   ·intro b k hbk;rcases hL2.new.φ b k hbk with h|h
    ·exact(hφ b k h).imp id (hkeep b)
    ·exact .inr (hrng b h)
   ·intro b o2 hob;cases hfb:find b t.ws with
    |some o3 =>
     rw[hgs b o3 hfb] at hob;injection hob with hob;subst hob
     exact hL2.wrote b _ hfb
    |none =>
     rw[hgn b hfb] at hob;exact hL2.kept b o2 (hw1 b o2 hob) hfb
   ·intro b o2 hob hn;cases hfb:find b t.ws with
    |some o3 =>
     rw[hgs b o3 hfb] at hn;cases hn
    |none =>
     rw[hgn b hfb] at hn;exact hL2.kept b o2 (hk1 b o2 hob hn) hfb
   ·intro tt x hx;have hx:jn (fun j=>(l.setIfInBounds i true).getD j false) tt ops.toList W 0 (find tt st.sl)=some x:=hx;by_cases hd:o.dst=some tt
    ·have:=cgj (p:=fun j=>(l.setIfInBounds i true).getD j false) (j:=0) (cur:=find tt st.sl) hiol hWi (by simp only[jc];rw[kQ hil,co rfl]) hd (fun y o' h1 h2 h3 h4=>by
      rw[jc,kQ hil,cg (by omega)] at h3;have hu:=KO (hclash tt hd) y o' h2 h4;rw[jc] at hu;have h5:=hcong y hu;rw[h3,hpii y (by omega)] at h5;cases h5)
     rw[this] at hx;injection hx with hx;subst hx
     have hlt:=cem hput i o (ni,t) hiol hWi tt hd;rw[hd];refine⟨v,?_,hx2⟩;have:tt<a1.tmps.size:=by rw[htm1];exact hlt
     simp [Act.put,this]
    ·rw[EL (q:=fun j=>l.getD j false) (fun y o' h1 h2=>by
      rw[jc,kQ hil];split
      ·rename_i hyi;subst hyi;rw[hiol] at h1;injection h1 with h1
       subst h1;exact absurd h2 hd
      ·rfl)] at hx
     obtain⟨u,h1,h2⟩:=hs1.ext hL2.adv.ext tt x hx;refine⟨u,?_,h2⟩;cases hdd:o.dst with
     |none=>exact h1
     |some d =>
      have:d≠tt:=fun h=>hd (by rw[hdd,h]);simp [Act.put,this,h1])
  unfold wpOpIn;simp only[hio];split at hres
  ·rename_i hw;rw[co hw];exact hres
  ·rename_i hw;rw[cg hw];exact⟨fun f _=>hW.fn f,hres⟩
 ·-- the end
  intro l a1 w1 hls hI hrdy;obtain⟨hsz1,hdown,hdf1,htm1,e1,hadv,hgood,⟨hρ,hν,hφ⟩,hw1,hk1,hs1⟩:=hI;have hall:=cpc hls (fun i o hio ed hed hbi=>by
   have:=yP hord i o (by simpa using hio) ed hed hbi;simpa using this) hrdy
  have hall':∀ i,i<ops.size->l.getD i false=true:=fun i hi=>by
   simp [uQ,hall i hi]
  have hWlt:∀ x t,W[x]?=some t->x<ops.size:=fun x t hx=>by
   have:=(List.getElem?_eq_some_iff.1 hx).1;omega
  have hg:∀ b,jT (fun j=>l.getD j false) b W 0 none=jT (fun _=>true) b W 0 none:=fun b=>CT (fun x t hx _=>by
   simp only[jc];exact hall' x (hWlt x t hx))
  have hrng:∀ b,(∃ j t,W[j]?=some t/\l.getD j false=true/\t.1<=b/\b<t.2.n1)->st.nb<=b/\b<n:=by
   rintro b ⟨j,t,r1,r2,r3,r4⟩;have hj:j<ops.toList.length:=by have:=hWlt j t r1;omega
   obtain⟨n2,t2,q1,q2,q3,q4,q5⟩:=hWs j _ (jX hj);rw[r1] at q1;injection q1 with q1
   subst q1;simp only at r3 r4;exact⟨by omega,by omega⟩
  have hcat:∀ b,find b (ccN W ([]:Ws D))=jT (fun _=>true) b W 0 none:=fun b=>by
   rw[cdX (j:=0)];cases jT (fun _=>true) b W 0 none<;>rfl
  refine hQ a1 w1 ⟨⟨e1,hLd.trans (n2:=n) ⟨hnn,hadv,⟨fun b k h=>(hρ b k h).imp id (hrng b),fun b k h=>(hν b k h).imp id (hrng b),fun b k h=>(hφ b k h).imp id (hrng b)⟩,hgood,fun b o h=>?_,fun b o h1 h2=>?_⟩,?_,rs,hdf1.trans hdf,hmk.ext hadv.ext⟩,htm1⟩
  ·rw[hcat,← hg] at h;exact hw1 b o h
  ·rw[hcat,← hg] at h2;exact hk1 b o h1 h2
  ·intro tt x hx;have hx:find tt sl=some x:=hx;rw[caN (j:=0) hput,← EL (p:=fun j=>l.getD j false) (fun y o' h1 h2=>by
    have:=(List.getElem?_eq_some_iff.1 h1).1;simp only[jc];exact hall' y (by omega))] at hx
   exact hs1 tt x hx
 ·-- the beginning
  have hf0:∀ j,(Array.replicate ops.size false).getD j false=false:=by
   intro j;simp only[uQ,lemZ9];split<;>rfl
  have hfun:(fun j=>(Array.replicate ops.size false).getD j false)=fun _=>false:=funext hf0;have hg0:∀ b,jT (fun j=>(Array.replicate ops.size false).getD j false) b W 0 none=none:=by
   intro b;rw[hfun];have:∀ (W:Acc D) (j:Nat),jT (fun _=>false) b W j none=none:=by
    intro W
    induction W with
    |nil=>intro j;rfl
    |cons t W ih=>intro j;unfold jT;exact ih (j+1)
   exact this W 0
  have hs0:∀ (tt:Nat) (cur:Option AV),jn (fun j=>(Array.replicate ops.size false).getD j false) tt ops.toList W 0 cur=cur:=by
   intro tt cur;rw[hfun];have:∀ (ol:List Oper) (W:Acc D) (j:Nat),jn (fun _=>false) tt ol W j cur=cur:=by
    intro ol
    induction ol with
    |nil=>intro W j;simp [jn]
    |cons o ol ih =>
     intro W j;cases W with
     |nil=>simp [jn]
     |cons t W=>unfold jn;exact ih W (j+1)
   exact this _ W 0
  refine⟨by simp,fun i hi=>(by rw[hf0] at hi;cases hi),rfl,hsz,e,Adv.refl _ _,hLd.good,⟨fun _ _ h=>.inl h,fun _ _ h=>.inl h,fun _ _ h=>.inl h⟩,fun b o h=>(by rw[hg0] at h;cases h),fun b o h _=>h,?_⟩;intro tt x hx;have hx:jn (fun j=>(Array.replicate ops.size false).getD j false) tt ops.toList W 0 (find tt st.sl)=some x:=hx;rw[hs0] at hx;exact hV tt x hx
end
end Pe
end Go.Proofs.YtgdnkbajagfijaaGreatDoor
