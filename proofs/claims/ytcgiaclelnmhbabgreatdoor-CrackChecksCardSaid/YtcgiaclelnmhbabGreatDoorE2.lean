/- Part 2. -/
import Derived.Test.YtcgiaclelnmhbabGreatDoorE1
import Derived.OrdersIn
set_option linter.all false
noncomputable section

namespace Go.Proofs.YtcgiaclelnmhbabGreatDoor
open Go Go.RowKit Go.Proofs
namespace Pe
variable {D:Type}
def ev {α:Type}(P:Program):Sem α->Option α
 |.pure a=>some a
 |.program k=>ev P (k P)
 |.mark _ k=>ev P k
 |_=>none
theorem cbe {α:Type}{P:Program}{s:Sem α}{v:α}(h:ev P s=some v) (w:World):s.run P w=.ok v w:=by
 induction s with
 |pure a=>simp [ev] at h;subst h;rfl
 |program k ih=>exact ih P h
 |mark m k ih=>exact ih h
 |_=>simp [ev] at h
def kX (P:Program) (n0:Nat) (s:Sem Value):Option (Out D) :=
 match ev P s with
 |some v=>out n0 (.val (.one (.lit v)))
 |none=>none
def KW:TypeDesc->Bool
 |.struct _=>true
 |.array _ _=>true
 |_=>false
theorem yK {P:Program}{t:TypeId}{d:TypeDesc}(h:P.underlying t=some d) (w:World):(isAgg t).run P w=.ok (KW d) w:=by
 cases d<;>simp [isAgg,underlying,h,KW]
theorem jD {P:Program}{t:TypeId}{i:TypeInfo}(h:P.info? t=some i) (w:World):(sizeOf t).run P w=.ok i.size w:=by
 simp [sizeOf,typeInfo,h]
def lits:List AC->Option (List Value)
 |[]=>some []
 |.lit v::cs=>match lits cs with
  |some vs=>some (v::vs)
  |none=>none
 |_::_=>none
theorem cfN {e:Env}:∀ {cs:List AC}{vs us:List Value},lits cs=some vs->cjd e cs us->us=vs
 |[],vs,us,h,hc=>by simp [lits] at h;subst h;exact hc
 |c::cs,vs,us,h,⟨v,ws,h1,h2,h3⟩=>by
  unfold lits at h;split at h
  ·rename_i h0;cases h0
  ·rename_i v' cs' h0;injection h0 with h0 h0';subst h0;subst h0'
   split at h
   ·rename_i vs' hv;injection h with h;subst h
    rw[h1,show v=v' from h2,cfN hv h3]
   ·cases h
  ·cases h
def yF?:Option AV->Option Value
 |some (.val (.one (.lit v)))=>some v
 |some (.val (.agg cs))=>match lits cs with
  |some vs=>some (.agg vs.toArray)
  |none=>none
 |_=>none
theorem yY {e:Env}{a:Act}{V:cR}(hV:cN e a V) {x:Operand}{v:Value}(h:yF? (CV V x)=some v):a.eval x=v:=by
 unfold yF? at h;split at h
 ·rename_i hx;injection h with h;subst h
  exact cM hV hx
 ·rename_i cs hx;split at h
  ·rename_i vs hvs;injection h with h;subst h
   obtain⟨us,h1,h2⟩:=cM hV hx;rw[h2,cfN hvs h1]
  ·cases h
 ·cases h
def uu (S:Stat D) (n0:Nat) (t:Nat) (cs:List AC) (z:Option Nat) (x:AC):Option (Out D) :=
 match S.okT t with
 |true=>some ⟨.val (.one x),[(n0,.blk t cs z)],n0+1,[]⟩
 |false=>none
def ky (M:ct D):AC->Bool
 |.lit v=>v.oneCell'
 |.fn c=>match M c with
  |some (.clo ..)=>true
  |some (.gl ..)=>true
  |some (.ep ..)=>true
  |some (.cp ..)=>true
  |some (.mp ..)=>true
  |some (.mf ..)=>true
  |_=>false
 |_=>true
def CB (f:AC->Bool):List AC->Bool
 |[]=>true
 |c::cs=>match f c with
  |true=>CB f cs
  |false=>false
def A1.cells:A1->List AC
 |.one c=>[c]
 |.agg cs=>cs
def cdd (P:Program) (M:ct D) (t:TypeId) (b o:Nat):Option A1 :=
 match P.underlying t with
 |none=>none
 |some d=>match KW d with
  |true=>match P.info? t with
   |some i=>match yS M b o i.size with
    |some (_,cs)=>some (.agg cs)
    |none=>none
   |none=>none
  |false=>match yS M b o 1 with
   |some (_,[c])=>some (.one c)
   |_=>none
def Ug (S:Stat D) (M:ct D) (n0:Nat) (t:TypeId) (b o:Nat) (cs:List AC):Option (Out D) :=
 match S.P.info? t with
 |none=>none
 |some i=>match Nat.beq cs.length i.size with
  |false=>none
  |true=>match CB (ky M) cs with
   |false=>none
   |true=>match M b with
    |some (.blk ty ds z)=>match Nat.ble (o+cs.length) ds.length with
     |false=>none
     |true=>some ⟨cjl,[(b,.blk ty (ds.take o++(cs++ds.drop (o+cs.length))) z)],n0,[]⟩
    |_=>none
def En (P:Program) (s f:Nat):Option Field :=
 match P.underlying s with
 |some (.struct fields)=>fields[f]?
 |_=>none
def cao (S:Stat D) (V:cR) (M:ct D) (fs:List Field):List (Nat×Operand)->List AC->Option (List AC)
 |[],cs=>some cs
 |(i,x)::l,cs=>match fs[i]? with
  |some f=>match S.P.info? f.type with
   |some j=>match CV V x with
    |some (.val y)=>match CB (ky M) y.cells with
     |true=>match Nat.beq y.cells.length j.size with
      |true=>match Nat.ble (f.offset+y.cells.length) cs.length with
       |true=>cao S V M fs l (cs.take f.offset++y.cells++cs.drop (f.offset+y.cells.length))
       |false=>none
      |false=>none
     |false=>none
    |_=>none
   |none=>none
  |none=>none
def YO (S:Stat D) (V:cR) (M:ct D) (z n:Nat):Nat->List (Nat×Operand)->Option (List AC)
 |_,[]=>some []
 |j,(i,x)::l=>match Nat.beq i j with
  |true=>match CV V x with
   |some (.val y)=>match CB (ky M) y.cells with
    |true=>match Nat.beq y.cells.length z with
     |true=>match YO S V M z n (j+1) l with
      |some cs=>some (y.cells++cs)
      |none=>none
     |false=>none
    |false=>none
   |_=>none
  |false=>none
def bsA (S:Stat D) (V:cR) (M:ct D) (n0:Nat) (t:TypeId) (n:Nat) (parts:Array (Nat×Operand)):Option (Out D) :=
 match ur S.P t with
 |some (e,i)=>match i.zero with
  |some _=>match i.size with
   |0=>none
   |z+1=>match Nat.ble (n*(z+1)) 16777216 with
    |false=>none
    |true=>match Nat.blt 0 n with
     |false=>none
     |true=>match YO S V M (z+1) n 0 parts.toList with
      |some cs=>match Nat.beq parts.toList.length n with
       |true=>uu S n0 e cs none (.slc n0 0 n n)
       |false=>none
      |none=>none
  |none=>none
 |none=>none
def repl (zs:List AC):Nat->List AC
 |0=>[]
 |n+1=>zs++repl zs n
def mkA (S:Stat D) (n0:Nat) (t:TypeId):Option Value->Option Value->Option (Out D)
 |some (.int _ (.ofNat l)),some (.int _ (.ofNat c))=>match ur S.P t with
  |some (e,i)=>match i.zero with
   |some z=>match Nat.beq z.cells.size i.size,Nat.ble l c,Nat.ble c 1000000,Nat.ble i.bytes 1000 with
    |true,true,true,true=>uu S n0 e (repl (z.cells.toList.map .lit) c) none (.slc n0 0 l c)
    |_,_,_,_=>none
   |none=>none
  |none=>none
 |_,_=>none
def yO (M:ct D) (z:Nat):Option AV->Option (Nat×List AC)
 |some (.val (.one (.slc b o n _)))=>match yS M b o (n*z) with
  |some (_,cs)=>some (n,cs)
  |none=>none
 |some (.val (.one (.gsl b n)))=>match yS M b 0 (n*z) with
  |some (_,cs)=>some (n,cs)
  |none=>none
 |some (.val (.one (.gso b i s n)))=>match yS M b (i*s) (n*z) with
  |some (_,cs)=>some (n,cs)
  |none=>none
 |_=>none
def GX (S:Stat D) (M:ct D) (n0:Nat) (ats:List Nat) (s:AV) (x:Option AV):Option (Out D) :=
 match ats with
 |[t,t']=>match Nat.beq t t',ur S.P t with
  |true,some (e,i)=>match i.zero with
   |some z0=>match Nat.beq z0.cells.size i.size,Nat.blt 0 i.size,Nat.ble i.bytes 1000,yO M i.size x with
    |true,true,true,some (m,news)=>match Nat.blt 0 m,Nat.ble m 1000000,CB (ky M) news with
     |true,true,true=>match s with
      |.val (.one (.lit (.slice none 0 0)))=>uu S n0 e news (some i.size) (.gsl n0 m)
      |.val (.one (.slc b o n c))=>match Nat.ble n 1000000 with
       |true=>match Nat.ble (n+m) c with
        |true=>match Nat.beq o 0,M b with
         |true,some (.blk ty ds z)=>match Nat.ble ((n+m)*i.size) ds.length,Nat.beq ty e with
          |true,true=>some ⟨.val (.one (.slc b 0 (n+m) c)),[(b,.blk ty (ds.take (n*i.size)++(news++ds.drop (n*i.size+news.length))) z)],n0,[]⟩
          |_,_=>none
         |_,_=>none
        |false=>match yS M b o (n*i.size) with
         |some (_,olds)=>uu S n0 e (olds++news) (some i.size) (.gsl n0 (n+m))
         |none=>none
       |false=>none
      |.val (.one (.gsl b n))=>match Nat.ble n 1000000,M b with
       |true,some (.blk ty ds (some z))=>match Nat.beq ds.length (n*i.size),Nat.beq ty e,Nat.beq z i.size,S.okT e with
        |true,true,true,true=>some ⟨.val (.one (.gsl n0 (n+m))),[(n0,.blk e (ds++news) (some i.size)),(b,.dead)],n0+1,[]⟩
        |_,_,_,_=>none
       |_,_=>none
      |_=>none
     |_,_,_=>none
    |_,_,_,_=>none
   |none=>none
  |_,_=>none
 |_=>none
def slc?:Option AV->Option (Nat×Nat×Nat)
 |some (.val (.one (.slc b o n _)))=>some (b,o,n)
 |some (.val (.one (.gsl b n)))=>some (b,0,n)
 |some (.val (.one (.gso b i z n)))=>some (b,i*z,n)
 |_=>none
def KS (S:Stat D) (M:ct D) (n0:Nat) (ats:List Nat) (x:Option AV):Option (Out D) :=
 match ats with
 |[t]=>match ur S.P t,slc? x with
  |some (_,i),some (b,o,n)=>match i.zero,M b with
   |some z0,some (.blk ty ds z)=>match Nat.beq z0.cells.size i.size,Nat.ble (o+n*i.size) ds.length,CB (ky M) (z0.cells.toList.map .lit),Nat.blt 0 n with
    |true,true,true,true=>some ⟨.tup [],[(b,.blk ty (ds.take o++(repl (z0.cells.toList.map .lit) n++ds.drop (o+n*i.size))) z)],n0,[]⟩
    |_,_,_,_=>none
   |_,_=>none
  |_,_=>none
 |_=>none
def cem:Option Value->Option Nat
 |some (.int _ (.ofNat n))=>some n
 |_=>none
def kI (V:cR):Option Operand->Option (Option Nat)
 |none=>some none
 |some x=>match cem (lit? (CV V x)) with
  |some n=>some (some n)
  |none=>none
def Uf (S:Stat D) (V:cR) (M:ct D) (n0:Nat) (t:TypeId) (x:Option AV) (lo hi mx:Option Operand):Option (Out D) :=
 match ur S.P t,kI V lo,kI V hi,kI V mx with
 |some (_,i),some l?,some h?,some m?=>match x with
  |some (.val (.one (.slc b o n c))) =>
   match m?,h? with
   |some _,none=>none
   |_,_ =>
    match Nat.ble (l?.getD 0) (h?.getD n),Nat.ble (h?.getD n) (m?.getD c),Nat.ble (m?.getD c) c with
    |true,true,true=>match Nat.beq (m?.getD c) (l?.getD 0) with
     |true=>out n0 (.val (.one (.slc b o (h?.getD n-l?.getD 0) (m?.getD c-l?.getD 0))))
     |false=>out n0 (.val (.one (.slc b (o+l?.getD 0*i.size) (h?.getD n-l?.getD 0) (m?.getD c-l?.getD 0))))
    |_,_,_=>none
  |some (.val (.one (.gsl b n)))=>match m? with
   |some m=>match Nat.beq (l?.getD 0) 0,Nat.beq (h?.getD 1) 0,Nat.beq m 0 with
    |true,true,true=>out n0 (.val (.one (.slc b 0 0 0)))
    |_,_,_=>none
   |none=>match Nat.beq (l?.getD 0) 0,Nat.ble (h?.getD n) n with
    |true,true=>match M b with
     |some (.blk _ cs (some z))=>match Nat.ble ((h?.getD n)*z) cs.length,Nat.blt 0 z with
      |true,true=>out n0 (.val (.one (.gsl b (h?.getD n))))
      |_,_=>none
     |_=>none
    |false,true=>match Nat.blt (l?.getD 0) (h?.getD n),M b with
     |true,some (.blk _ cs (some z))=>match Nat.ble ((h?.getD n)*z) cs.length,Nat.beq z i.size,Nat.blt 0 z with
      |true,true,true=>out n0 (.val (.one (.gso b (l?.getD 0) i.size (h?.getD n-l?.getD 0))))
      |_,_,_=>none
     |_,_=>none
    |_,_=>none
  |_=>none
 |_,_,_,_=>none
theorem cbk {e:Env}{a:Act}{V:cR}(hV:cN e a V) {x:Operand}{b o n:Nat}(h:slc? (CV V x)=some (b,o,n)) :
 ∃ k c,e.ρ b=some k/\a.eval x=.slice (some ⟨k,o,none⟩) n c:=by
 unfold slc? at h;split at h
 ·rename_i hx;injection h with h;simp only[co] at h;obtain⟨h1,h2,h3⟩:=h;subst h1;subst h2;subst h3
  obtain⟨k,h1,h2⟩:=cM hV hx;exact⟨k,_,h1,h2⟩
 ·rename_i hx;injection h with h;simp only[co] at h;obtain⟨h1,h2,h3⟩:=h;subst h1;subst h2;subst h3
  obtain⟨k,h1,h2⟩:=cM hV hx;exact⟨k,_,h1,h2⟩
 ·rename_i hx;injection h with h;simp only[co] at h;obtain⟨h1,h2,h3⟩:=h;subst h1;subst h2;subst h3
  obtain⟨k,h1,h2⟩:=cM hV hx;exact⟨k,_,h1,h2⟩
 ·cases h
def yQ (S:Stat D) (T:Tab D) (V:cR) (M:ct D) (n0 d:Nat) (h:Hd) (xs:List Operand):Option (Out D) :=
 match T d h with
 |none=>none
 |some F=>match CP V xs with
  |some l=>match JK S M l with
   |some ps=>match F ps with
    |some (res,ob)=>match mkR S.csz n0 res with
     |some (x,ws,n1)=>some ⟨x,ws,n1,ob⟩
     |none=>none
    |none=>none
   |none=>none
  |none=>none
def Yt:List AV->Option (List Value)
 |[]=>some []
 |.val (.one (.lit v))::l=>match Yt l with
  |some vs=>some (v::vs)
  |none=>none
 |_=>none
def memA (S:Stat D) (T:Tab D) (M:ct D) (n0 d:Nat) (f:FuncId) (l:List AV):Option (Out D) :=
 match T d (.mem f),l with
 |some F,.val (.one (.fn b))::more=>match M b,Yt more with
  |some (.gl ty z n g),some vs=>match F (.one (.cls (S.mkL ⟨S.lo,ty,z,n,g⟩))::cbD vs) with
   |some (res,ob)=>match caX res with
    |some (d',x,_)=>match S.unL d',S.okT ty with
     |some L',true=>some ⟨x,[(b,.gl ty z n L'.g)],n0,(0<n)::(L'.n=n)::ob⟩
     |_,_=>none
    |none=>match preRes res with
     |some (d',m)=>match S.unL d',S.okT ty with
      |some L',true=>some ⟨.val (.one (.fn n0)),[(n0,.gl ty z m L'.g),(b,.dead)],n0+1,(0<n)::(L'.n=m)::(m<=n)::ob⟩
      |_,_=>none
     |none=>none
   |none=>none
  |_,_=>none
 |_,_=>none
def ptrB (M:ct D):AV->Option (Nat×Value×Nat×(Value->kU D))
 |.val (.one (.ptr b 0))=>match M b with
  |some (.blk ty [.lit v] none)=>some (b,v,ty,fun u=>.blk ty [.lit u] none)
  |_=>none
 |.val (.one (.fn p))=>match M p with
  |some (.ep l 0 1 0)=>match M l with
   |some (.gl ty 1 1 g)=>match g 0 with
    |[.lit v]=>some (l,v,ty,fun u=>.gl ty 1 1 (fun _=>[.lit u]))
    |_=>none
   |_=>none
  |_=>none
 |_=>none
def rdB (csz:D->Nat) (M:ct D):AV->Option (Pat D)
 |.val (.one (.lit v))=>some (.one (.lit v))
 |.val (.one (.sym s 0))=>match M s with
  |some (.cls d)=>match Nat.beq (csz d) 1 with
   |true=>some (.one (.cls d))
   |false=>none
  |_=>none
 |_=>none
def rdBs (csz:D->Nat) (M:ct D):List AV->Option (List (Pat D))
 |[]=>some []
 |x::l=>match rdB csz M x,rdBs csz M l with
  |some p,some ps=>some (p::ps)
  |_,_=>none
def Ko (M:ct D):List AV->List AV->Option (List AV×(Nat×Value×Nat×(Value->kU D))×List AV)
 |_,[]=>none
 |pre,x::l=>match ptrB M x with
  |some q=>some (pre,q,l)
  |none=>Ko M (pre++[x]) l
def boxA (S:Stat D) (T:Tab D) (M:ct D) (n0 d:Nat) (f:FuncId) (l:List AV):Option (Out D) :=
 match T d (.box f) with
 |some F=>match Ko M [] l with
  |some (pre,q,post)=>match rdBs S.csz M (pre++post) with
   |some ps=>match F (.one (.lit q.2.1)::.one (.lit (nV pre.length))::.one (.lit (nV q.2.2.1))::ps) with
    |some (res,ob)=>match caQ res with
     |some (u,x,_)=>match S.okT q.2.2.1 with
      |true=>some ⟨x,[(q.1,q.2.2.2 u)],n0,ob⟩
      |false=>none
     |none=>none
    |none=>none
   |none=>none
  |none=>none
 |none=>none
def JR (S:Stat D) (T:Tab D) (CF:cz D) (M:ct D) (n0 d:Nat) (f:FuncId) (l:List AV):Option (Out D) :=
 match memA S T M n0 d f l with
 |some r=>some r
 |none=>match boxA S T M n0 d f l with
 |some r=>some r
 |none=>match T d (.call f) with
 |some F=>match JK S M l with
  |some ps=>match F ps with
   |some (res,ob)=>match mkR S.csz n0 res with
    |some (x,ws,n1)=>some ⟨x,ws,n1,ob⟩
    |none=>none
   |none=>none
  |none=>none
 |none=>CF M n0 f l
def a1s:List AV->Option (List A1)
 |[]=>some []
 |.val a::l=>match a1s l with
  |some bs=>some (a::bs)
  |none=>none
 |.tup _::_=>none
def Wn (S:Stat D) (T:Tab D) (CF YF:cz D) (V:cR) (M:ct D) (n0:Nat) (o:Oper):Option (Out D) :=
 let d:=o.dst.getD 0
 match o.op with
 |.move x=>match CV V x with
  |some v=>out n0 v
  |none=>none
 |.assign x=>match CV V x with
  |some v=>out n0 v
  |none=>none
 |.pick c x y=>match lit? (CV V c) with
  |some (.bool true)=>match CV V x with
   |some v=>out n0 v
   |none=>none
  |some (.bool false)=>match CV V y with
   |some v=>out n0 v
   |none=>none
  |_=>none
 |.alloc t=>match S.P.info? t with
  |some i=>match i.zero with
   |some z=>uu S n0 t (z.cells.toList.map .lit) none (.ptr n0 0)
   |none=>none
  |none=>none
 |.box t x=>match CV V x with
  |some (.val a)=>match CB (ky M) a.cells with
   |true=>uu S n0 t a.cells none (.ptr n0 0)
   |false=>none
  |_=>none
 |.build t parts=>match S.P.info? t with
  |some i=>match i.zero with
   |some z=>match S.P.underlying t with
    |some (.struct fs)=>match fs.toList.all (fun f=>(S.P.info? f.type).isSome) with
     |true=>match cao S V M fs.toList parts.toList (z.cells.toList.map .lit) with
      |some cs=>out n0 (.val (.agg cs))
      |none=>none
     |false=>none
    |_=>none
   |none=>none
  |none=>none
 |.load t x=>match ptr? (CV V x) with
  |some (b,p)=>match cdd S.P M t b p with
   |some y=>out n0 (.val y)
   |none=>none
  |none=>yQ S T V M n0 d (.ld t) [x]
 |.store t x y=>match ptr? (CV V x) with
  |some (b,p)=>match CV V y with
   |some (.val a)=>Ug S M n0 t b p a.cells
   |_=>none
  |none=>none
 |.nilCheck x=>match CV V x with
  |some (.val (.one (.ptr b p)))=>out n0 (.val (.one (.ptr b p)))
  |some (.val (.one (.fn c)))=>match M c with
   |some (.clo ..)=>out n0 (.val (.one (.fn c)))
   |_=>none
  |some (.val (.one (.lit (.func (.func f) a b))))=>out n0 (.val (.one (.lit (.func (.func f) a b))))
  |_=>none
 |.binOp op t x y _=>match yQ S T V M n0 d (.bin op t) [x,y] with
  |some r=>some r
  |none=>match yF? (CV V x),yF? (CV V y) with
   |some vx,some vy=>kX S.P n0 (do eqGuard op t x y vx vy;binOp op t vx vy)
   |_,_=>none
 |.unOp op t x=>match yQ S T V M n0 d (.un op t) [x] with
  |some r=>some r
  |none=>match lit? (CV V x) with
   |some vx=>kX S.P n0 (Op.unary op vx)
   |none=>none
 |.convert s t x=>match yQ S T V M n0 d (.cv s t) [x] with
  |some r=>some r
  |none=>match lit? (CV V x) with
   |some vx=>kX S.P n0 (convert s t vx)
   |none=>none
 |.slice t x lo hi mx=>match Uf S V M n0 t (CV V x) lo hi mx with
  |some r=>some r
  |none=>match lit? (CV V x),mx with
   |some vx,none=>match (lo.map fun y=>lit? (CV V y)),(hi.map fun y=>lit? (CV V y)) with
    |some (some vl),some (some vh)=>kX S.P n0 (Instr.sliceAt t vx (some vl) (some vh) none)
    |some (some vl),none=>kX S.P n0 (Instr.sliceAt t vx (some vl) none none)
    |none,some (some vh)=>kX S.P n0 (Instr.sliceAt t vx none (some vh) none)
    |none,none=>kX S.P n0 (Instr.sliceAt t vx none none none)
    |_,_=>none
   |_,_=>yQ S T V M n0 d (.sl t lo.isSome hi.isSome mx.isSome) (x::(lo.toList++hi.toList++mx.toList))
 |.makeSlice t l c=>match mkA S n0 t (lit? (CV V l)) (lit? (CV V c)) with
  |some r=>some r
  |none=>yQ S T V M n0 d (.mk t) [l,c]
 |.index t x i=>match yF? (CV V x),lit? (CV V i) with
  |some vx,some vi=>kX S.P n0 (Instr.index t vx vi)
  |_,_=>yQ S T V M n0 d (.si t) [x,i]
 |.fieldAddr s x f=>match ptr? (CV V x) with
  |some (b,p)=>match En S.P s f with
   |some fl=>match S.P.info? fl.type with
    |some i=>match i.size with
     |0=>none
     |_+1=>out n0 (.val (.one (.ptr b (p+fl.offset))))
    |none=>none
   |none=>none
  |none=>yQ S T V M n0 d (.fa s f) [x]
 |.makeFunc (.func f) first cap=>match CP V first.toList,CP V cap.toList with
  |some xs,some ys=>match a1s xs,a1s ys with
   |some ps,some qs=>some ⟨.val (.one (.fn n0)),[(n0,.clo f ps qs)],n0+1,[]⟩
   |_,_=>none
  |_,_=>none
 |.field t x f=>match CV V x with
  |some (.val (.agg cs))=>match En S.P t f with
   |some fl=>match S.P.underlying fl.type with
    |some d=>match KW d with
     |true=>match S.P.info? fl.type with
      |some i=>out n0 (.val (.agg ((cs.drop fl.offset).take i.size)))
      |none=>none
     |false=>match cs[fl.offset]? with
      |some c=>out n0 (.val (.one c))
      |none=>none
    |none=>none
   |none=>none
  |_=>none
 |.extract x i=>match CV V x with
  |some (.tup l)=>match l[i]? with
   |some y=>out n0 (.val y)
   |none=>none
  |_=>none
 |.buildSlice t n parts=>bsA S V M n0 t n parts
 |.indexAddr t x i=>match slc? (CV V x),lit? (CV V i),S.P.underlying t with
  |some (b,p,n),some (.int .i64 (.ofNat j)),some (.slice e)=>match Nat.blt j n with
   |true=>match S.P.info? e with
    |some inf=>out n0 (.val (.one (.ptr b (p+j*inf.size))))
    |none=>none
   |false=>none
  |_,_,_=>yQ S T V M n0 d (.ix t) [x,i]
 |.call c=>match c.callee with
  |.value fo=>match CV V fo,CP V c.args.toList with
   |some (.val (.one (.lit (.func (.func f) ⟨[]⟩ ⟨[]⟩)))),some l=>JR S T CF M n0 d f l
   |some (.val (.one (.fn k))),some l=>match M k with
    |some (.clo f ps qs)=>JR S T CF M n0 d f (jU ps++(l++jU qs))
    |_=>none
   |some (.val (.one (.yld k))),some l=>YF M n0 k l
   |_,_=>none
  |.builtin .len=>match c.args.toList with
   |[x]=>match slc? (CV V x),c.argTypes[0]? with
    |some (_,_,n),some t=>match S.P.underlying t with
     |some (.slice _)=>out n0 (.val (.one (.lit (goInt n))))
     |_=>none
    |_,_=>match yF? (CV V x) with
     |some vx=>kX S.P n0 (Builtin.len_ c.argTypes o.type #[vx])
     |none=>yQ S T V M n0 d (.blt .len c.argTypes.toList o.type) [x]
   |_=>none
  |.builtin .append=>match c.args.toList with
   |[s,x]=>match CV V s with
    |some y=>GX S M n0 c.argTypes.toList y (CV V x)
    |none=>none
   |_=>none
  |.builtin .clear=>match c.args.toList with
   |[x]=>KS S M n0 c.argTypes.toList (CV V x)
   |_=>none
  |.builtin b=>yQ S T V M n0 d (.blt b c.argTypes.toList o.type) c.args.toList
  |_=>none
 |_=>none
def opAlt0 (S:Stat D) (T:Tab D) (CF YF:cz D) (V:cR) (M:ct D) (n0:Nat) (d:Nat) (o:Oper):Option (Out D):=match o.op with
 |.move x=>match CV V x with
  |some v=>out n0 v
  |none=>none
 |_=>none
def opAlt1 (S:Stat D) (T:Tab D) (CF YF:cz D) (V:cR) (M:ct D) (n0:Nat) (d:Nat) (o:Oper):Option (Out D):=match o.op with
 |.assign x=>match CV V x with
  |some v=>out n0 v
  |none=>none
 |_=>none
def opAlt2 (S:Stat D) (T:Tab D) (CF YF:cz D) (V:cR) (M:ct D) (n0:Nat) (d:Nat) (o:Oper):Option (Out D):=match o.op with
 |.pick c x y=>match lit? (CV V c) with
  |some (.bool true)=>match CV V x with
   |some v=>out n0 v
   |none=>none
  |some (.bool false)=>match CV V y with
   |some v=>out n0 v
   |none=>none
  |_=>none
 |_=>none
def opAlt3 (S:Stat D) (T:Tab D) (CF YF:cz D) (V:cR) (M:ct D) (n0:Nat) (d:Nat) (o:Oper):Option (Out D):=match o.op with
 |.alloc t=>match S.P.info? t with
  |some i=>match i.zero with
   |some z=>uu S n0 t (z.cells.toList.map .lit) none (.ptr n0 0)
   |none=>none
  |none=>none
 |_=>none
def opAlt4 (S:Stat D) (T:Tab D) (CF YF:cz D) (V:cR) (M:ct D) (n0:Nat) (d:Nat) (o:Oper):Option (Out D):=match o.op with
 |.box t x=>match CV V x with
  |some (.val a)=>match CB (ky M) a.cells with
   |true=>uu S n0 t a.cells none (.ptr n0 0)
   |false=>none
  |_=>none
 |_=>none
def opAlt5 (S:Stat D) (T:Tab D) (CF YF:cz D) (V:cR) (M:ct D) (n0:Nat) (d:Nat) (o:Oper):Option (Out D):=match o.op with
 |.build t parts=>match S.P.info? t with
  |some i=>match i.zero with
   |some z=>match S.P.underlying t with
    |some (.struct fs)=>match fs.toList.all (fun f=>(S.P.info? f.type).isSome) with
     |true=>match cao S V M fs.toList parts.toList (z.cells.toList.map .lit) with
      |some cs=>out n0 (.val (.agg cs))
      |none=>none
     |false=>none
    |_=>none
   |none=>none
  |none=>none
 |_=>none
def opAlt6 (S:Stat D) (T:Tab D) (CF YF:cz D) (V:cR) (M:ct D) (n0:Nat) (d:Nat) (o:Oper):Option (Out D):=match o.op with
 |.load t x=>match ptr? (CV V x) with
  |some (b,p)=>match cdd S.P M t b p with
   |some y=>out n0 (.val y)
   |none=>none
  |none=>yQ S T V M n0 d (.ld t) [x]
 |_=>none
def opAlt7 (S:Stat D) (T:Tab D) (CF YF:cz D) (V:cR) (M:ct D) (n0:Nat) (d:Nat) (o:Oper):Option (Out D):=match o.op with
 |.store t x y=>match ptr? (CV V x) with
  |some (b,p)=>match CV V y with
   |some (.val a)=>Ug S M n0 t b p a.cells
   |_=>none
  |none=>none
 |_=>none
def opAlt8 (S:Stat D) (T:Tab D) (CF YF:cz D) (V:cR) (M:ct D) (n0:Nat) (d:Nat) (o:Oper):Option (Out D):=match o.op with
 |.nilCheck x=>match CV V x with
  |some (.val (.one (.ptr b p)))=>out n0 (.val (.one (.ptr b p)))
  |some (.val (.one (.fn c)))=>match M c with
   |some (.clo ..)=>out n0 (.val (.one (.fn c)))
   |_=>none
  |some (.val (.one (.lit (.func (.func f) a b))))=>out n0 (.val (.one (.lit (.func (.func f) a b))))
  |_=>none
 |_=>none
def opAlt9 (S:Stat D) (T:Tab D) (CF YF:cz D) (V:cR) (M:ct D) (n0:Nat) (d:Nat) (o:Oper):Option (Out D):=match o.op with
 |.binOp op t x y _=>match yQ S T V M n0 d (.bin op t) [x,y] with
  |some r=>some r
  |none=>match yF? (CV V x),yF? (CV V y) with
   |some vx,some vy=>kX S.P n0 (do eqGuard op t x y vx vy;binOp op t vx vy)
   |_,_=>none
 |_=>none
def opAlt10 (S:Stat D) (T:Tab D) (CF YF:cz D) (V:cR) (M:ct D) (n0:Nat) (d:Nat) (o:Oper):Option (Out D):=match o.op with
 |.unOp op t x=>match yQ S T V M n0 d (.un op t) [x] with
  |some r=>some r
  |none=>match lit? (CV V x) with
   |some vx=>kX S.P n0 (Op.unary op vx)
   |none=>none
 |_=>none
def opAlt11 (S:Stat D) (T:Tab D) (CF YF:cz D) (V:cR) (M:ct D) (n0:Nat) (d:Nat) (o:Oper):Option (Out D):=match o.op with
 |.convert s t x=>match yQ S T V M n0 d (.cv s t) [x] with
  |some r=>some r
  |none=>match lit? (CV V x) with
   |some vx=>kX S.P n0 (convert s t vx)
   |none=>none
 |_=>none
def opAlt12 (S:Stat D) (T:Tab D) (CF YF:cz D) (V:cR) (M:ct D) (n0:Nat) (d:Nat) (o:Oper):Option (Out D):=match o.op with
 |.slice t x lo hi mx=>match Uf S V M n0 t (CV V x) lo hi mx with
  |some r=>some r
  |none=>match lit? (CV V x),mx with
   |some vx,none=>match (lo.map fun y=>lit? (CV V y)),(hi.map fun y=>lit? (CV V y)) with
    |some (some vl),some (some vh)=>kX S.P n0 (Instr.sliceAt t vx (some vl) (some vh) none)
    |some (some vl),none=>kX S.P n0 (Instr.sliceAt t vx (some vl) none none)
    |none,some (some vh)=>kX S.P n0 (Instr.sliceAt t vx none (some vh) none)
    |none,none=>kX S.P n0 (Instr.sliceAt t vx none none none)
    |_,_=>none
   |_,_=>yQ S T V M n0 d (.sl t lo.isSome hi.isSome mx.isSome) (x::(lo.toList++hi.toList++mx.toList))
 |_=>none
def opAlt13 (S:Stat D) (T:Tab D) (CF YF:cz D) (V:cR) (M:ct D) (n0:Nat) (d:Nat) (o:Oper):Option (Out D):=match o.op with
 |.makeSlice t l c=>match mkA S n0 t (lit? (CV V l)) (lit? (CV V c)) with
  |some r=>some r
  |none=>yQ S T V M n0 d (.mk t) [l,c]
 |_=>none
def opAlt14 (S:Stat D) (T:Tab D) (CF YF:cz D) (V:cR) (M:ct D) (n0:Nat) (d:Nat) (o:Oper):Option (Out D):=match o.op with
 |.index t x i=>match yF? (CV V x),lit? (CV V i) with
  |some vx,some vi=>kX S.P n0 (Instr.index t vx vi)
  |_,_=>yQ S T V M n0 d (.si t) [x,i]
 |_=>none
def opAlt15 (S:Stat D) (T:Tab D) (CF YF:cz D) (V:cR) (M:ct D) (n0:Nat) (d:Nat) (o:Oper):Option (Out D):=match o.op with
 |.fieldAddr s x f=>match ptr? (CV V x) with
  |some (b,p)=>match En S.P s f with
   |some fl=>match S.P.info? fl.type with
    |some i=>match i.size with
     |0=>none
     |_+1=>out n0 (.val (.one (.ptr b (p+fl.offset))))
    |none=>none
   |none=>none
  |none=>yQ S T V M n0 d (.fa s f) [x]
 |_=>none
def opAlt16 (S:Stat D) (T:Tab D) (CF YF:cz D) (V:cR) (M:ct D) (n0:Nat) (d:Nat) (o:Oper):Option (Out D):=match o.op with
 |.makeFunc (.func f) first cap=>match CP V first.toList,CP V cap.toList with
  |some xs,some ys=>match a1s xs,a1s ys with
   |some ps,some qs=>some ⟨.val (.one (.fn n0)),[(n0,.clo f ps qs)],n0+1,[]⟩
   |_,_=>none
  |_,_=>none
 |_=>none
def opAlt17 (S:Stat D) (T:Tab D) (CF YF:cz D) (V:cR) (M:ct D) (n0:Nat) (d:Nat) (o:Oper):Option (Out D):=match o.op with
 |.field t x f=>match CV V x with
  |some (.val (.agg cs))=>match En S.P t f with
   |some fl=>match S.P.underlying fl.type with
    |some d=>match KW d with
     |true=>match S.P.info? fl.type with
      |some i=>out n0 (.val (.agg ((cs.drop fl.offset).take i.size)))
      |none=>none
     |false=>match cs[fl.offset]? with
      |some c=>out n0 (.val (.one c))
      |none=>none
    |none=>none
   |none=>none
  |_=>none
 |_=>none
def opAlt18 (S:Stat D) (T:Tab D) (CF YF:cz D) (V:cR) (M:ct D) (n0:Nat) (d:Nat) (o:Oper):Option (Out D):=match o.op with
 |.extract x i=>match CV V x with
  |some (.tup l)=>match l[i]? with
   |some y=>out n0 (.val y)
   |none=>none
  |_=>none
 |_=>none
def opAlt19 (S:Stat D) (T:Tab D) (CF YF:cz D) (V:cR) (M:ct D) (n0:Nat) (d:Nat) (o:Oper):Option (Out D):=match o.op with
 |.buildSlice t n parts=>bsA S V M n0 t n parts
 |_=>none
def opAlt20 (S:Stat D) (T:Tab D) (CF YF:cz D) (V:cR) (M:ct D) (n0:Nat) (d:Nat) (o:Oper):Option (Out D):=match o.op with
 |.indexAddr t x i=>match slc? (CV V x),lit? (CV V i),S.P.underlying t with
  |some (b,p,n),some (.int .i64 (.ofNat j)),some (.slice e)=>match Nat.blt j n with
   |true=>match S.P.info? e with
    |some inf=>out n0 (.val (.one (.ptr b (p+j*inf.size))))
    |none=>none
   |false=>none
  |_,_,_=>yQ S T V M n0 d (.ix t) [x,i]
 |_=>none
def opCallV (S:Stat D) (T:Tab D) (CF YF:cz D) (V:cR) (M:ct D) (n0:Nat) (d:Nat) (c:Call):Option (Out D):=match c.callee with
 |.value fo=>match CV V fo,CP V c.args.toList with
  |some (.val (.one (.lit (.func (.func f) ⟨[]⟩ ⟨[]⟩)))),some l=>JR S T CF M n0 d f l
  |some (.val (.one (.fn k))),some l=>match M k with
   |some (.clo f ps qs)=>JR S T CF M n0 d f (jU ps++(l++jU qs))
   |_=>none
  |some (.val (.one (.yld k))),some l=>YF M n0 k l
  |_,_=>none
 |_=>none
def opCallB (S:Stat D) (T:Tab D) (CF YF:cz D) (V:cR) (M:ct D) (n0:Nat) (d:Nat) (o:Oper) (c:Call):Option (Out D):=match c.callee with
 |.builtin .len=>match c.args.toList with
  |[x]=>match slc? (CV V x),c.argTypes[0]? with
   |some (_,_,n),some t=>match S.P.underlying t with
    |some (.slice _)=>out n0 (.val (.one (.lit (goInt n))))
    |_=>none
   |_,_=>match yF? (CV V x) with
    |some vx=>kX S.P n0 (Builtin.len_ c.argTypes o.type #[vx])
    |none=>yQ S T V M n0 d (.blt .len c.argTypes.toList o.type) [x]
  |_=>none
 |.builtin .append=>match c.args.toList with
  |[s,x]=>match CV V s with
   |some y=>GX S M n0 c.argTypes.toList y (CV V x)
   |none=>none
  |_=>none
 |.builtin .clear=>match c.args.toList with
  |[x]=>KS S M n0 c.argTypes.toList (CV V x)
  |_=>none
 |.builtin b=>yQ S T V M n0 d (.blt b c.argTypes.toList o.type) c.args.toList
 |_=>none
def cjq (S:Stat D) (T:Tab D) (CF YF:cz D) (V:cR) (M:ct D) (n0:Nat) (o:Oper):Option (Out D):=match o.dst.getD 0 with
 |d=>match o.op with
  |.move ..=>opAlt0 S T CF YF V M n0 d o
  |.assign ..=>opAlt1 S T CF YF V M n0 d o
  |.pick ..=>opAlt2 S T CF YF V M n0 d o
  |.alloc ..=>opAlt3 S T CF YF V M n0 d o
  |.box ..=>opAlt4 S T CF YF V M n0 d o
  |.build ..=>opAlt5 S T CF YF V M n0 d o
  |.load ..=>opAlt6 S T CF YF V M n0 d o
  |.store ..=>opAlt7 S T CF YF V M n0 d o
  |.nilCheck ..=>opAlt8 S T CF YF V M n0 d o
  |.binOp ..=>opAlt9 S T CF YF V M n0 d o
  |.unOp ..=>opAlt10 S T CF YF V M n0 d o
  |.convert ..=>opAlt11 S T CF YF V M n0 d o
  |.slice ..=>opAlt12 S T CF YF V M n0 d o
  |.makeSlice ..=>opAlt13 S T CF YF V M n0 d o
  |.index ..=>opAlt14 S T CF YF V M n0 d o
  |.fieldAddr ..=>opAlt15 S T CF YF V M n0 d o
  |.makeFunc (.func _) _ _=>opAlt16 S T CF YF V M n0 d o
  |.field ..=>opAlt17 S T CF YF V M n0 d o
  |.extract ..=>opAlt18 S T CF YF V M n0 d o
  |.buildSlice ..=>opAlt19 S T CF YF V M n0 d o
  |.indexAddr ..=>opAlt20 S T CF YF V M n0 d o
  |.call c=>match c.callee with
   |.value _=>opCallV S T CF YF V M n0 d c
   |.builtin _=>opCallB S T CF YF V M n0 d o c
   |_=>none
  |_=>none
theorem KO (S:Stat D) (T:Tab D) (CF YF:cz D) (V:cR) (M:ct D) (n0:Nat) (o:Oper):cjq S T CF YF V M n0 o=Wn S T CF YF V M n0 o:=by
 obtain⟨dst,op,ty,pos,af,gu⟩:=o;cases op with
 |call c =>
  obtain⟨callee,args,ats⟩:=c;cases callee with
  |builtin b=>cases b<;>rfl
  |_=>rfl
 |makeFunc f x y=>cases f<;>rfl
 |_=>rfl
variable {D:Type}
def cz.Ok (C:Ctx D) (CF:cz D):Prop:=∀ e w M n0 f l vs t,cA C e w M->Kv C e w->kv e l vs->CF M n0 f l=some t->jC n0 t.n1 e->cX t.ob->
 Enters C.P f/\Calls C.P f vs.toArray w (fun en w'=>∃ v,en=.returned v/\jG C e w n0 t v w')
def Wd (F:Fence):Prop:=F=Fence.wide\/∃ l,F=Fence.wide.inRound l
theorem Wd.fn {F:Fence}(h:Wd F) (f:FuncId):F.fn f:=by
 rcases h with rfl|⟨l,rfl⟩<;>trivial
theorem Wd.depth {F:Fence}(h:Wd F):F.depth=none:=by
 rcases h with rfl|⟨l,rfl⟩<;>rfl
theorem Wd.room {F:Fence}(h:Wd F) (n:Nat):F.room n:=fun d hd=>by rw[h.depth] at hd;cases hd
theorem Wd.calls {F:Fence}(h:Wd F) {n:Nat}{P:Program}{f:FuncId}{args:Array Value}{w:World}{R:Ending->World->Prop}(hc:Calls P f args w R):CallsIn F n P f args w R:=by
 rcases h with rfl|⟨l,rfl⟩
 ·exact callsIn_wide.2 hc
 ·exact(callsIn_wide.2 hc:CallsIn Fence.wide n P f args w R)
def ui (o:Oper):Prop:=∀ c,o.op≠.defer c
section
variable {F:Fence}{m:Nat}
variable {C:Ctx D}{e:Env}{a:Act}{w:World}{V:cR}{M:ct D}{T:Tab D}{CF:cz D}{n0:Nat}{K:Act->World->Prop}{Q:Exit->Act->World->Prop}{o:Oper}{t:Out D}
theorem cJ (hW:Wd F) (hn:ui o) {v:Value}{w':World}(h:(execOp a.eval o).run C.P w=.ok (.value v) w') (hK:K (a.put o.dst v) w'):o.wpIn F m C.P a w K Q:=by
 refine⟨fun f _=>hW.fn f,?_⟩;rw[Ei _ _ _ hn,h];exact hK
theorem kY (hW:Wd F) (hn:ui o) (hg:Kv C e w) {x:AV}(hu:(out n0 x:Option (Out D))=some t) {v:Value}(h:(execOp a.eval o).run C.P w=.ok (.value v) w) (hx:x.is e v) (hK:∀ v w',jG C e w n0 t v w'->K (a.put o.dst v) w'):o.wpIn F m C.P a w K Q:=by
 injection hu with hu;subst hu
 exact cJ hW hn h (hK _ _ (jG.here hg hx))
theorem zK (hW:Wd F) (hn:ui o) (hg:Kv C e w) {s:Sem Value}(hu:kX C.P n0 s=some t) (h:∀ v w',s.run C.P w=.ok v w'->(execOp a.eval o).run C.P w=.ok (.value v) w') (hK:∀ v w',jG C e w n0 t v w'->K (a.put o.dst v) w'):o.wpIn F m C.P a w K Q:=by
 unfold kX at hu;split at hu
 ·rename_i v hv;exact kY hW hn hg hu (h _ _ (cbe hv w)) rfl hK
 ·cases hu
theorem yI (w:World) (o:Obj):Below w.heap.size w { w with heap:=w.heap.push o }:=⟨rfl,rfl,rfl,by simp,fun k hk=>by
 show (w.heap.push _)[k]?=_;rw[cfh,cf (by omega)]⟩
theorem GB (hg:Kv C e w) {ty:Nat}{cs:List AC}{x:AC}(hu:uu C.toStat n0 ty cs none x=some t) (hf:jC n0 t.n1 e) {w':World}(hb:Below w.heap.size w w') {arr:Array Value}(hk:w'.heap[w.heap.size]?=some (.cells arr ty (0,0))) (hc:cjd e cs arr.toList) {v:Value}(hx:∀ e':Env,e'.ρ n0=some w.heap.size->x.is e' v):jG C e w n0 t v w':=by
 unfold uu at hu;split at hu
 ·rename_i ht;injection hu with hu;subst hu
  obtain⟨e',h1,h2,_⟩:=cdx hg hf ht hb hk (vs:=arr.toList) (rest:=[]) (by simp) hc (z:=none) (cap:=0) rfl;exact⟨e',h1,hx e' h2⟩
 ·cases hu
theorem CX (hC:C.Ok) (hM:cA C e w M) {c:AC}{v:Value}(h:ky M c=true) (hc:c.is e v):v.oneCell'=true:=by
 cases c with
 |lit x=>rw[show v=x from hc];exact h
 |sym s j =>
  obtain⟨f,h1,h2,h3⟩:=hc;exact h3
 |ptr b o=>obtain⟨k,_,rfl⟩:=hc;rfl
 |slc b o n c=>obtain⟨k,_,rfl⟩:=hc;rfl
 |gsl b n=>obtain⟨k,_,rfl⟩:=hc;rfl
 |gso b i z n=>obtain⟨k,_,rfl⟩:=hc;rfl
 |yld b=>obtain⟨k,_,rfl⟩:=hc;rfl
 |fn c =>
  simp only[ky] at h;split at h
  ·rename_i f p q hl;obtain⟨p',q',h1,_,_⟩:=hM _ _ hl;rw[show e.φ c=some v from hc] at h1;injection h1 with h1
   rw[h1];rfl
  ·rename_i hl;obtain⟨v',h1,h2⟩:=hM _ _ hl;rw[show e.φ c=some v from hc] at h1;injection h1 with h1;subst h1
   rcases h2 with⟨_,rfl⟩|⟨_,_,_,_,_,_,_,rfl,_⟩<;>rfl
  ·rename_i hl;obtain⟨k,_,h1⟩:=hM _ _ hl;rw[show e.φ c=some v from hc] at h1;injection h1 with h1
   rw[h1];rfl
  ·rename_i hl;obtain⟨k,_,_,_,_,h1⟩:=hM _ _ hl;rw[show e.φ c=some v from hc] at h1;injection h1 with h1
   rw[h1];rfl
  ·rename_i hl;obtain⟨k,_,_,_,h1,_⟩:=hM _ _ hl;rw[show e.φ c=some v from hc] at h1;injection h1 with h1
   rw[h1];rfl
  ·rename_i hl;obtain⟨k,_,_,_,_,_,h1,_⟩:=hM _ _ hl;rw[show e.φ c=some v from hc] at h1;injection h1 with h1
   rw[h1];rfl
  ·cases h
theorem A1.cells_are {x:A1}{v:Value}(hC:C.Ok) (hM:cA C e w M) (h:x.is e v) (hs:CB (ky M) x.cells=true):cjd e x.cells v.cells.toList:=by
 cases x with
 |one c =>
  simp only[A1.cells,CB] at hs ⊢;split at hs
  ·rename_i hc;have h1:=CX hC hM hc h;have:v.cells=#[v]:=by cases v<;>first|rfl|(simp [Value.oneCell'] at h1)
   rw[this];exact⟨v,[],rfl,h,rfl⟩
  ·cases hs
 |agg cs =>
  obtain⟨vs,h1,rfl⟩:=h;simpa [Value.cells,A1.cells] using h1
theorem zL (hC:C.Ok) (hM:cA C e w M):∀ {cs:List AC}{vs:List Value},CB (ky M) cs=true->cjd e cs vs->∀ v∈vs,v.oneCell'=true
 |[],vs,_,h,v,hv=>by rw[h] at hv;simp at hv
 |c::cs,vs,hs,⟨x,ws,h1,h2,h3⟩,v,hv=>by
  simp only[CB] at hs;split at hs
  ·rename_i hc;subst h1;rcases List.mem_cons.1 hv with rfl|hv
   ·exact CX hC hM hc h2
   ·exact zL hC hM hs h3 v hv
  ·cases hs
theorem Zv (hM:cA C e w M) {b k p:Nat}(hk:e.ρ b=some k) {ty:TypeId}{x:A1}(h:cdd C.P M ty b p=some x) :
 ∃ v,(loadVar ty ⟨k,p,none⟩).run C.P w=.ok v w/\x.is e v:=by
 unfold cdd at h;split at h
 ·cases h
 ·rename_i d hd;split at h
  ·rename_i ha;split at h
   ·rename_i i hi;split at h
    ·rename_i ty' cs hcs;injection h with h;subst h
     obtain⟨h1,arr,pre,vs,rest,h2,h3,h4,h5⟩:=ul hM hk hcs;refine⟨.agg vs.toArray,?_,vs,h5,rfl⟩;have hl:vs.length=i.size:=h5.length.trans h1;have:=run_loadCells_list (P:=C.P) (w:=w) ⟨k,p,none⟩ vs (fun j v hj=>by rw[jt];exact ud h2 h3 h4 j v hj);rw[hl] at this;simp [loadVar,yK hd,ha,jD hi,this]
    ·cases h
   ·cases h
  ·rename_i ha;split at h
   ·rename_i ty' c hcs;injection h with h;subst h
    obtain⟨h1,arr,pre,vs,rest,h2,h3,h4,v,ws,h5,h6,h7⟩:=ul hM hk hcs;refine⟨v,?_,h6⟩;have:=ud h2 h3 h4 0 v (by rw[h5];rfl);rw[jz] at this;simp [loadVar,yK hd,ha,this]
   ·cases h
theorem zV (P:Program) (k ty:Nat):∀ (vs:List Value) (i p:Nat) (w:World) (pre old post:List Value) (arr:Array Value),w.heap[k]?=some (.cells arr ty (0,0))->arr.toList=pre++old++post->pre.length=p+i->old.length=vs.length->(∀ v∈vs,v.oneCell'=true)->
 ∃ w' arr',(storeCells ⟨k,p,none⟩ vs i).run P w=.ok () w'/\w'.heap[k]?=some (.cells arr' ty (0,0))/\arr'.toList=pre++vs++post/\ju k w w'
 |[],i,p,w,pre,old,post,arr,h,ha,_,hl,_=>⟨w,arr,rfl,h,by rw[ha];simp at hl;rw[hl],ju.refl k w⟩
 |v::vs,i,p,w,pre,old,post,arr,h,ha,hp,hl,h1=>by
  cases old with
  |nil=>simp at hl
  |cons x old =>
   have hsz:arr.size=pre.length+(old.length+1+post.length):=by
    have:=cw List.length ha;simp at this;omega
   have hlt:p+i<arr.size:=by omega
   have hb:(w.setCell ⟨k,p+i,none⟩ v).heap[k]?=some (.cells (arr.setIfInBounds (p+i) v) ty (0,0)):=by
    simp only[World.setCell,cdf,cq,h];rfl
   obtain⟨w',arr',h2,h3,h4,h5⟩:=zV P k ty vs (i+1) p (w.setCell ⟨k,p+i,none⟩ v) (pre++[v]) old post _ hb (by
    rw[Array.toList_setIfInBounds,ha,← hp,uU,List.set_append_right _ _ (cb _),Nat.sub_self];simp) (by simp;omega) (by simpa using hl) (fun y hy=>h1 y (zG _ hy))
   have hc:w.cell? ⟨k,p+i,none⟩=some arr[p+i]:=by simp [World.cell?,h,hlt]
   have hfz:w.frozen? ⟨k,p+i,none⟩=false:=by simp [World.frozen?,h]
   refine⟨w',arr',?_,h3,by rw[h4];simp,((ju.refl k w).set (p+i) v).trans h5⟩;rw[storeCells];simp [jt,run_store _ _ _ _ _ (h1 v (by simp)),hc,hfz,h2]
theorem cgL (hC:C.Ok) (hM:cA C e w M) (hg:Kv C e w) {ty:TypeId}{b p k:Nat}(hk:e.ρ b=some k) {x:A1}{v:Value}(hx:x.is e v)
 (hu:Ug C.toStat M n0 ty b p x.cells=some t):∃ w',(storeVar ty ⟨k,p,none⟩ v).run C.P w=.ok () w'/\jG C e w n0 t undef w':=by
 unfold Ug at hu;split at hu
 ·cases hu
 ·rename_i i hi;split at hu
  ·cases hu
  ·rename_i hsz;split at hu
   ·cases hu
   ·rename_i hall;split at hu
    ·rename_i ty' ds z hbox;split at hu
     ·cases hu
     ·rename_i hle;injection hu with hu;subst hu
      have hle:=jh hle;have hcs:=A1.cells_are hC hM hx hall;have hlen:v.cells.toList.length=x.cells.length:=hcs.length;obtain⟨k',arr,vs,rest,q1,q2,q3,q4,q5,q6⟩:=hM _ _ hbox;rw[hk] at q1;injection q1 with q1;subst q1
      have hvl:=q5.length;obtain⟨w',arr',r1,r2,r3,r4⟩:=zV C.P k ty' v.cells.toList 0 p w (vs.take p) ((vs.drop p).take x.cells.length) (vs.drop (p+x.cells.length)++rest) arr q3 (by
       rw[q4]
       conv=>lhs;rw[← jZ p vs,← jZ x.cells.length (vs.drop p)]
       simp [uF]) (by simp;omega) (by simp only[ji,kL];omega) (zL hC hM hall hcs)
      refine⟨w',?_,e,?_,rfl⟩
      ·have hs1:¬ v.cells.size≠i.size:=by
        have:=cn hsz;rw[← this,← hlen];simp
       simp only[storeVar,jA,jD hi,kG,cf hs1];exact r1
      ·refine Jz hg hk q2 q3 r4 r2 (vs':=vs.take p++(v.cells.toList++vs.drop (p+x.cells.length))) (rest':=rest) (by rw[r3];simp) (q5.take.append (hcs.append q5.drop)) ?_;cases z with
       |none=>exact q6
       |some z =>
        simp only at q6 ⊢;rw[← q6];have h1:=cw List.length q4;have h2:=cw List.length r3;simp only[kp,ji,kL,yA] at h1 h2;simp only[yA] at hlen;omega
    ·cases hu
theorem cfO (off:Nat):∀ (vs:List Value) (cells:Array Value) (j:Nat),off+j+vs.length<=cells.size->
 ((vs.zipIdx j).foldl (fun cs (c,j)=>cs.setIfInBounds (off+j) c) cells).toList=cells.toList.take (off+j)++vs++cells.toList.drop (off+j+vs.length)
 |[],cells,j,h=>by simp
 |v::vs,cells,j,h=>by
  simp only[CA] at h;rw[List.zipIdx_cons,List.foldl_cons,cfO off vs _ (j+1) (by simp;omega)];have hlt:off+j<cells.size:=by omega
  simp only[Array.toList_setIfInBounds,CA];rw[show off+(j+1)=off+j+1 by omega,show off+j+1+vs.length=off+j+(vs.length+1) by omega];rw[List.take_set,List.drop_set_of_lt (by omega)];have hlen:off+j<cells.toList.length:=by simpa using hlt
  rw[List.take_succ_eq_append_getElem hlen];have hl:(cells.toList.take (off+j)).length=off+j:=by simp;omega
  rw[List.set_append_right _ _ (by omega),hl];simp
theorem cdl (hC:C.Ok) (hV:cN e a V) (hM:cA C e w M) {fs:List Field}{place:Nat->Option (Nat×Nat)}(hp:∀ (j:Nat) (f:Field) (inf:TypeInfo),fs[j]?=some f->C.P.info? f.type=some inf->place j=some (f.offset,inf.size)) :
 ∀ {parts:List (Nat×Operand)} {cs ds:List AC} {z:Array Value},cao C.toStat V M fs parts cs=some ds->cjd e cs z.toList->∃ us,cjd e ds us/\Instr.fill place z (parts.map fun(i,x)=>(i,a.eval x))=some us.toArray
 |[],cs,ds,z,h,hz=>by
  simp [cao] at h;subst h;exact⟨z.toList,hz,by simp [Instr.fill]⟩
 |(i,x)::l,cs,ds,z,h,hz=>by
  unfold cao at h;split at h
  ·rename_i f hf;split at h
   ·rename_i j hj;split at h
    ·rename_i y hy;split at h
     ·rename_i hall;split at h
      ·rename_i hsz;split at h
       ·rename_i hle;have hx:=A1.cells_are hC hM (cM hV hy) hall;have hlen:(a.eval x).cells.toList.length=y.cells.length:=hx.length;have hzl:z.toList.length=cs.length:=hz.length;have hle:=jh hle;have hsz:=cn hsz;have hls:(a.eval x).cells.size=y.cells.length:=by simpa using hlen
        have hzs:z.size=cs.length:=by simpa using hzl
        let z':=((a.eval x).cells.toList.zipIdx 0).foldl (fun cs (c,j)=>cs.setIfInBounds (f.offset+j) c) z
        have hz':z'.toList=z.toList.take f.offset++(a.eval x).cells.toList++z.toList.drop (f.offset+y.cells.length):=by
         have:=cfO f.offset (a.eval x).cells.toList z 0 (by rw[hlen,hzs];omega);simp only[jz,hlen] at this;exact this
        obtain⟨us,h1,h2⟩:=cdl hC hV hM hp (z:=z') h (by rw[hz'];exact(hz.take.append hx).append hz.drop);refine⟨us,h1,?_⟩;simp only[uf,Instr.fill,hp i f j hf hj];rw[cf (by simp only[Bool.or_eq_true,Kt];omega)];have e1:((a.eval x).cells.zipIdx.foldl (fun cs (c,j)=>cs.setIfInBounds (f.offset+j) c) z)=z':=by
         rw[← Array.foldl_toList];simp [z',Array.toList_zipIdx]
        rw[e1];exact h2
       ·cases h
      ·cases h
     ·cases h
    ·cases h
   ·cases h
  ·cases h
theorem Zw (hC:C.Ok) (hV:cN e a V) (hM:cA C e w M) {z n:Nat}:∀ {parts:List (Nat×Operand)}{j:Nat}{cs:List AC},YO C.toStat V M z n j parts=some cs->
 ∃ vs:List Value,vs.length=parts.length/\(∀ v∈vs,v.cells.size=z)/\(parts.map fun(i,x)=>(i,a.eval x))=((vs.zipIdx j).map fun x=>(x.2,x.1))/\∃ us,cjd e cs us/\(vs.flatMap fun v=>v.cells.toList)=us
 |[],j,cs,h=>by
  simp [YO] at h;subst h;exact⟨[],rfl,fun v h=>by simp at h,rfl,[],rfl,rfl⟩
 |(i,x)::l,j,cs,h=>by
  unfold YO at h;split at h
  ·rename_i hij;split at h
   ·rename_i y hy;split at h
    ·rename_i hall;split at h
     ·rename_i hsz;split at h
      ·rename_i ds hds;injection h with h;subst h
       have hx:=A1.cells_are hC hM (cM hV hy) hall;obtain⟨vs,h1,h2,h3,us,h4,h5⟩:=Zw hC hV hM hds;refine⟨a.eval x::vs,by simp [h1],?_,?_,(a.eval x).cells.toList++us,hx.append h4,by simp [h5]⟩
       ·intro v hv;rcases List.mem_cons.1 hv with rfl|hv
        ·have:=hx.length;simp only[yA] at this;rw[this,cn hsz]
        ·exact h2 v hv
       ·rw[uf,h3,List.zipIdx_cons,uf,cn hij]
      ·cases h
     ·cases h
    ·cases h
   ·cases h
  ·cases h
theorem ka {P:Program}{ty e:Nat}{i:TypeInfo}(h:ur P ty=some (e,i)):P.underlying ty=some (.slice e)/\P.info? e=some i:=by
 unfold ur at h;split at h
 ·rename_i e' he;split at h
  ·rename_i i' hi;injection h with h;injection h with h1 h2;subst h1;subst h2
   exact⟨he,hi⟩
  ·cases h
 ·cases h
theorem bsA_is (hC:C.Ok) (hV:cN e a V) (hM:cA C e w M) (hg:Kv C e w) {ty n:Nat}{parts:Array (Nat×Operand)}(hu:bsA C.toStat V M n0 ty n parts=some t) (hf:jC n0 t.n1 e) :
 ∃ v w',(Instr.buildSlice ty n (parts.map fun(i,x)=>(i,a.eval x))).run C.P w=.ok v w'/\jG C e w n0 t v w':=by
 unfold bsA at hu;split at hu
 ·rename_i el i he;obtain⟨hel,hi⟩:=ka he;split at hu
  ·rename_i z0 hz0;split at hu
   ·cases hu
   ·rename_i z hz;split at hu
    ·cases hu
    ·rename_i hle;split at hu
     ·cases hu
     ·rename_i hpos;split at hu
      ·rename_i cs hcs;split at hu
       ·rename_i hlen;have hle:=jh hle;have hpos:=cjh hpos;have hlen:=cn hlen;obtain⟨vs,h1,h2,h3,us,h4,h5⟩:=Zw hC hV hM hcs;have hf':Instr.fill (fun j=>some (j*i.size,i.size)) ((Array.range (n*i.size)).map (z0.cells[·%z0.cells.size]!)) (parts.map fun(j,x)=>(j,a.eval x)).toList=some us.toArray:=by
         rw[Array.toList_map,h3];have:=Great.fill_whole (s:=i.size) (by omega) vs ((Array.range (n*i.size)).map (z0.cells[·%z0.cells.size]!)) (fun v hv=>by rw[hz];exact h2 v hv) (by rw[h1,hlen];simp);rw[this,h5]
        have:=run_buildSlice w ty el n (parts.map fun(j,x)=>(j,a.eval x)) _ i z0 hel hi hz0 (by rw[hz];show ¬ n*(z+1)>2^24;omega) (by rw[hz];exact Nat.mul_ne_zero (by omega) (by omega)) hf';exact⟨_,_,this,GB hg hu hf (yI _ _) (arr:=us.toArray) (by simp) h4 (fun e' he=>⟨_,he,rfl⟩)⟩
       ·cases hu
      ·cases hu
  ·cases hu
 ·cases hu
theorem YJ (e:Env) (zs:List Value):∀ n,cjd e (repl (zs.map .lit) n) (List.replicate n zs).flatten
 |0=>rfl
 |n+1=>by
  rw[List.replicate_succ,List.flatten_cons];exact(zW e zs).append (YJ e zs n)
theorem Ci {z:List Value}:∀ (n j:Nat),j<n*z.length->(List.replicate n z).flatten[j]?=z[j%z.length]?
 |0,j,h=>by simp at h
 |n+1,j,h=>by
  rw[List.replicate_succ,List.flatten_cons];rcases jj j z.length with hj|hj
  ·rw[JO hj,kP hj]
  ·rw[Yp hj,Ci n (j-z.length) (by rw[cD] at h;omega),Nat.mod_eq_sub_mod hj]
theorem CT (z:Array Value) (n:Nat):(madeCells z (n*z.size)).toList=(List.replicate n z.toList).flatten:=by
 apply yz;intro j;rcases jj j (n*z.size) with hj|hj
 ·rw[Ci n j (by simpa using hj)];have hz:0<z.size:=by
   rcases jr z.size with h|h
   ·rw[h] at hj;simp at hj
   ·exact h
  have hm:=jJ j hz;simp [madeCells,hj,hm]
 ·rw[uC (by simpa [madeCells] using hj),uC (by simp;exact hj)]
theorem mkA_is (hg:Kv C e w) {ty:Nat}{l c:Value}(hu:mkA C.toStat n0 ty (some l) (some c)=some t) (hf:jC n0 t.n1 e) :
 ∃ v w',(Instr.makeSlice ty l c).run C.P w=.ok v w'/\jG C e w n0 t v w':=by
 unfold mkA at hu;split at hu
 ·rename_i kl l' kc c' hl hc;injection hl with hl;subst hl
  injection hc with hc;subst hc
  split at hu
  ·rename_i el i he;obtain⟨hel,hi⟩:=ka he;split at hu
   ·rename_i z hz;split at hu
    ·rename_i h1 h2 h3 h4;have h1:=cn h1;have h2:=jh h2;have h3:=jh h3;have h4:=jh h4;have hbb:i.bytes*c'<=281474976710656:=cB (uN h4 h3) (by decide);have:=run_make (P:=C.P) w ty el i z hel hi hz kl kc (l':Int) (c':Int) (by omega) (by omega) (by rw[← kT];exact Int.ofNat_le.2 hbb) (by omega);simp only[Int.toNat_natCast] at this;refine⟨_,_,this,GB hg hu hf (w':=w.alloc (.cells (madeCells z.cells (c'*i.size)) el)) (arr:=madeCells z.cells (c'*i.size)) (yI w _) ?_ ?_ (fun e' he=>⟨_,he,rfl⟩)⟩
     ·show (w.heap.push _)[w.heap.size]?=_;simp
     ·rw[← h1,CT];exact YJ e _ _
    ·cases hu
   ·cases hu
  ·cases hu
 ·cases hu
end
variable {D:Type}
section
variable {F:Fence}{m:Nat}
variable {C:Ctx D}{e:Env}{a:Act}{w:World}{V:cR}{M:ct D}{T:Tab D}{CF:cz D}{n0:Nat}{K:Act->World->Prop}{Q:Exit->Act->World->Prop}{o:Oper}{t:Out D}
theorem Jo (hM:cA C e w M) {z m:Nat}{cs:List AC}{x:AV}{v:Value}(h:yO M z (some x)=some (m,cs)) (hx:x.is e v) :
 ∃ p c vs,v=.slice (some p) m c/\vs.length=m*z/\cjd e cs vs/\∀ j u,vs[j]?=some u->w.cell? (p.add j)=some u:=by
 unfold yO at h;split at h
 ·rename_i b o n c h0;injection h0 with h0;subst h0
  obtain⟨k,hk,rfl⟩:=hx;split at h
  ·rename_i ty ds hcs;injection h with h;injection h with h1 h2;subst h1;subst h2
   obtain⟨h1,arr,pre,vs,rest,h2,h3,h4,h5⟩:=ul hM hk hcs;exact⟨_,_,vs,rfl,h5.length.trans h1,h5,fun j u hj=>by rw[jt];exact ud h2 h3 h4 j u hj⟩
  ·cases h
 ·rename_i b n h0;injection h0 with h0;subst h0
  obtain⟨k,hk,rfl⟩:=hx;split at h
  ·rename_i ty ds hcs;injection h with h;injection h with h1 h2;subst h1;subst h2
   obtain⟨h1,arr,pre,vs,rest,h2,h3,h4,h5⟩:=ul hM hk hcs;exact⟨_,_,vs,rfl,h5.length.trans h1,h5,fun j u hj=>by rw[jt];exact ud h2 h3 h4 j u hj⟩
  ·cases h
 ·rename_i b i s n h0;injection h0 with h0;subst h0
  obtain⟨k,hk,rfl⟩:=hx;split at h
  ·rename_i ty ds hcs;injection h with h;injection h with h1 h2;subst h1;subst h2
   obtain⟨h1,arr,pre,vs,rest,h2,h3,h4,h5⟩:=ul hM hk hcs;exact⟨_,_,vs,rfl,h5.length.trans h1,h5,fun j u hj=>by rw[jt];exact ud h2 h3 h4 j u hj⟩
  ·cases h
 ·cases h
theorem Ej (z:Array Value) (n:Nat):(Builtin.zeroCells z n).size=n*z.size:=by simp [Builtin.zeroCells]
theorem ciy {n m c s:Nat}(h:n=m*s) (hc:m<=c):n+(c-m)*s=c*s:=by
 rw[h,← cD];congr 1;omega
theorem Uw (hg:Kv C e w) {el z m:Nat}{cs:List AC}(hu:uu C.toStat n0 el cs (some z) (.gsl n0 m)=some t) (hf:jC n0 t.n1 e) {news:List Value}{zs:Array Value}{cap:Nat}(hc:cjd e cs news) (hl:news.length=m*z) (hz:zs.size=z) (hcap:m<=cap) {arr:Array Value}(ha:arr.toList=news++(Builtin.zeroCells zs (cap-m)).toList) :
 jG C e w n0 t (.slice (some ⟨w.heap.size,0,none⟩) m cap) (w.drew.alloc (.cells arr el)):=by
 unfold uu at hu;split at hu
 ·rename_i ht;injection hu with hu;subst hu
  obtain⟨e',h1,h2,h3⟩:=cdx hg hf ht ((cF _ w).drew.alloc (cb _) (.cells arr el)) (arr:=arr) (by
   show (w.heap.push _)[w.heap.size]?=_;simp) ha hc (z:=some z) (cap:=cap) (by
   have:=cw List.length ha;simp only[yA,kp,Ej,hz] at this;simp only;rw[this];exact ciy hl hcap)
  refine⟨e',h1,_,h2,?_⟩;rw[h3]
 ·cases hu
theorem cec (hC:C.Ok) (hM:cA C e w M) (hg:Kv C e w) {ats:List Nat}{s:AV}{x:Option AV}{vs vx:Value}(hu:GX C.toStat M n0 ats s x=some t) (hs:s.is e vs) (hx:∀ y,x=some y->y.is e vx) (hf:jC n0 t.n1 e) (ty:Nat) :
 ∃ v w',(Builtin.append_ ats.toArray ty #[vs,vx]).run C.P w=.ok v w'/\jG C e w n0 t v w':=by
 unfold GX at hu;split at hu
 rotate_left
 ·cases hu
 rename_i T1 T2;split at hu
 rotate_left
 ·cases hu
 rename_i el i hT he;have hT:=cn hT;subst hT;obtain⟨hel,hi⟩:=ka he;split at hu
 rotate_left
 ·cases hu
 rename_i z0 hz0;split at hu
 rotate_left
 ·cases hu
 rename_i m news h1 h2 h3 h4;have h1:=cn h1;have h2:=cjh h2;have h3:=jh h3;split at hu
 rotate_left
 ·cases hu
 rename_i h5 h6 h7;have h5:=cjh h5;have h6:=jh h6;cases x with
 |none=>simp [yO] at h4
 |some x =>
 obtain⟨p,c,us,hvx,hul,huc,hget⟩:=Jo hM h4 (hx x rfl);have hu1:=zL hC hM h7 huc;subst hvx;have hby:∀ k,k<=2000000->k*i.bytes<=140737488355328:=fun k hk=>cB (uN hk h3) (by decide);split at hu
 ·obtain rfl:vs=.slice none 0 0:=hs;have:=run_append_nil (P:=C.P) w T1 ty el i z0 hel hi hz0 p m c us hul hget h5 (by omega) (cB (hby m (by omega)) (by decide));exact⟨_,_,this,Uw hg hu hf huc hul h1 (UB _ _ _ _) (by simp)⟩
 ·rename_i b o n cp;obtain⟨k,hk,rfl⟩:=hs;split at hu
  rotate_left
  ·cases hu
  rename_i hn;have hn:=jh hn;split at hu
  ·rename_i hroom;have hroom:=jh hroom;split at hu
   rotate_left
   ·cases hu
   rename_i ty' ds z ho hb;have ho:=cn ho;subst ho;split at hu
   rotate_left
   ·cases hu
   rename_i hfit hte;have hfit:=jh hfit;have hte:=cn hte;subst hte;injection hu with hu;subst hu
   obtain⟨k',arr,ols,rest,q1,q2,q3,q4,q5,q6⟩:=hM _ _ hb;rw[hk] at q1;injection q1 with q1;subst q1
   have hal:=q5.length;have hasz:arr.size=ols.length+rest.length:=by simpa using cw List.length q4
   have hfit':n*i.size+us.length<=ols.length:=by rw[hul,← cD,hal];exact hfit
   have:=run_append_room (P:=C.P) w T1 ty ty' i hel hi k n cp arr q3 p m c us hul hget hu1 hroom (by omega);refine⟨_,_,this,e,Jz hg hk q2 q3 (arr':=(arr.toList.take (n*i.size)++us++arr.toList.drop (n*i.size+us.length)).toArray) ?_ (setRow_heap w k arr _ ty' _ q3) (vs':=ols.take (n*i.size)++(us++ols.drop (n*i.size+us.length))) (rest':=rest) ?_ ?_ ?_,k,hk,rfl⟩
   ·exact⟨rfl,rfl,rfl,by simp,fun j hj=>setRow_other w k j _ hj⟩
   ·rw[q4];simp only[uU];rw[WN (by omega),caF (by omega)]
   ·rw[huc.length];exact q5.take.append (huc.append q5.drop)
   ·cases z with
    |none=>exact q6
    |some z =>
     simp only at q6 ⊢;rw[← q6];simp only[Gt,kp,ji,kL,yA];omega
  ·rename_i hroom;have hroom:cp<n+m:=by
    rcases jj cp (n+m) with h|h
    ·exact h
    ·rw[zA h] at hroom;cases hroom
   split at hu
   rotate_left
   ·cases hu
   rename_i ty' olds ho;obtain⟨q1,arr,pre,os,rest,q2,q3,q4,q5⟩:=ul hM hk ho;have hol:os.length=n*i.size:=q5.length.trans q1;have:=cbI (P:=C.P) w T1 ty el i z0 hel hi hz0 ⟨k,o,none⟩ n cp os hol (fun j v hj=>by rw[jt];exact ud q2 q3 q4 j v hj) p m c us hul hget hroom (by omega) (caA hroom (hby _ (by omega)));exact⟨_,_,this,Uw hg hu hf (q5.append huc) (by rw[kp,hol,hul,cD]) h1 (UB _ _ _ _) (by simp)⟩
 ·rename_i b n;obtain⟨k,hk,rfl⟩:=hs;split at hu
  rotate_left
  ·cases hu
  rename_i ty' ds z hn hb;have hn:=jh hn;split at hu
  rotate_left
  ·cases hu
  rename_i hlen hte hze hok;have hlen:=cn hlen;have hte:=cn hte;have hze:=cn hze;subst hte;subst hze;injection hu with hu;subst hu
  obtain⟨k',arr,ols,rest,q1,q2,q3,q4,q5,q6⟩:=hM _ _ hb;rw[hk] at q1;injection q1 with q1;subst q1
  simp only at q6;have hal:=q5.length;have hasz:arr.size=ols.length+rest.length:=by simpa using cw List.length q4
  by_cases hroom:n+m<=e.κ b
  ·have hfit:n*i.size+us.length<=arr.size:=by rw[hul,← cD,q6];exact cK _ hroom
   have:=run_append_room (P:=C.P) w T1 ty ty' i hel hi k n (e.κ b) arr q3 p m c us hul hget hu1 hroom hfit;obtain⟨e',r1,r2,r3⟩:=cgP hg hf hk q2 q3 (arr':=(arr.toList.take (n*i.size)++us++arr.toList.drop (n*i.size+us.length)).toArray) (w':=w.setRow k (arr.toList.take (n*i.size)++us++arr.toList.drop (n*i.size+us.length)).toArray) ⟨rfl,rfl,rfl,by simp,fun j hj=>setRow_other w k j _ hj⟩ (setRow_heap w k arr _ ty' _ q3) (cs':=ds++news) (vs':=ols++us) (rest':=arr.toList.drop (n*i.size+us.length)) (by
    rw[q4];simp only;rw[WN (by omega),kH (by omega)]) (q5.append huc) (z:=i.size) (by
    simp only[Gt,kp,ji,kL,yA];omega)
   refine⟨_,_,this,e',r1,k,r2,?_⟩;rw[r3]
  ·have hroom:e.κ b<n+m:=by omega
   have hol:ols.length=n*i.size:=by omega
   have:=cbI (P:=C.P) w T1 ty ty' i z0 hel hi hz0 ⟨k,0,none⟩ n (e.κ b) ols hol (fun j v hj=>by rw[jt];exact ud q3 (pre:=[]) (rest:=rest) (by simpa using q4) rfl j v hj) p m c us hul hget hroom (by omega) (caA hroom (hby _ (by omega)));have hd:=Uw (t:=⟨.val (.one (.gsl n0 (n+m))),[(n0,.blk ty' (ds++news) (some i.size))],n0+1,[]⟩) hg (by unfold uu;rw[hok]) hf (q5.append huc) (by rw[kp,hol,hul,cD]) h1 (UB w (n+m) (e.κ b) ty') (arr:=ols.toArray++us.toArray++Builtin.zeroCells z0.cells (grownCap w (n+m) (e.κ b) ty'-(n+m))) (by simp);obtain⟨e',r1,r2⟩:=hd;exact⟨_,_,this,e',r1.drop,r2⟩
 ·cases hu
theorem useT_is (hC:C.Ok) (hT:T.Ok C) (hV:cN e a V) (hM:cA C e w M) (hg:Kv C e w) {h:Hd}{d:Nat}{xs:List Operand}(hu:yQ C.toStat T V M n0 d h xs=some t) (ho:cX t.ob) :
 ∃ ps res,jL C h ps res/\cjf C w ps (xs.map a.eval)/\∃ x ws n1,mkR C.csz n0 res=some (x,ws,n1)/\t=⟨x,ws,n1,t.ob⟩:=by
 unfold yQ at hu;split at hu
 ·cases hu
 ·rename_i F hF;split at hu
  ·rename_i l hl;split at hu
   ·rename_i ps hps;split at hu
    ·rename_i res ob hent;split at hu
     ·rename_i x ws n1 hm;injection hu with hu;subst hu
      exact⟨ps,res,hT _ _ _ _ _ _ hF hent ho,GO hC hg hM hps (uZ hV hl),x,ws,n1,hm,rfl⟩
     ·cases hu
    ·cases hu
   ·cases hu
  ·cases hu
theorem yv (hW:Wd F) (hnd:ui o) (hC:C.Ok) (hT:T.Ok C) (hV:cN e a V) (hM:cA C e w M) (hg:Kv C e w) {h:Hd}{d:Nat}{xs:List Operand}(hh:cjk o=some (h,xs)) (hc:∀ f,h≠.call f) (hu:yQ C.toStat T V M n0 d h xs=some t) (hf:jC n0 t.n1 e) (ho:cX t.ob) (hK:∀ v w',jG C e w n0 t v w'->K (a.put o.dst v) w'):o.wpIn F m C.P a w K Q:=by
 obtain⟨ps,res,h1,h2,x,ws,n1,h3,h4⟩:=useT_is hC hT hV hM hg hu ho;unfold jL at h1;split at h1
 ·rename_i f;exact absurd rfl (hc f)
 ·exfalso;unfold cjk at hh
  repeat' split at hh
  all_goals simp at hh
 ·exfalso;unfold cjk at hh
  repeat' split at hh
  all_goals simp at hh
 ·exfalso;unfold cjk at hh
  repeat' split at hh
  all_goals simp at hh
 ·obtain⟨v,w',h5,h6,h7⟩:=h1 w a.eval o xs hh hg.below h2;rw[h4] at hf hK;obtain⟨e',h8,h9⟩:=cds hC hg h6 h3 hf h7;exact cJ hW hnd h5 (hK v w' ⟨e',h8,h9⟩)
theorem Uj {e:Env}:∀ {l:List AV}{us vs:List Value},Yt l=some us->kv e l vs->vs=us
 |[],us,vs,h,hv=>by simp [Yt] at h;subst h;exact hv
 |x::l,us,vs,h,⟨v,ws,h1,h2,h3⟩=>by
  unfold Yt at h;split at h
  ·rename_i h0;cases h0
  ·rename_i u l' h0;injection h0 with h0 h0';subst h0;subst h0'
   split at h
   ·rename_i vs' hv;injection h with h;subst h
    rw[h1,show v=u from h2,Uj hv h3]
   ·cases h
  ·cases h
theorem memA_is (hT:T.Ok C) (hM:cA C e w M) (hg:Kv C e w) {f:FuncId}{d:Nat}{l:List AV}{vs:List Value}(hl:kv e l vs) (hu:memA C.toStat T M n0 d f l=some t) (hf:jC n0 t.n1 e) (ho:cX t.ob) :
 Enters C.P f/\Calls C.P f vs.toArray w (fun en w'=>∃ v,en=.returned v/\jG C e w n0 t v w'):=by
 unfold memA at hu;split at hu
 rotate_left
 ·cases hu
 rename_i F b more hF;split at hu
 rotate_left
 ·cases hu
 rename_i ty z n g ls hb hls;split at hu
 rotate_left
 ·cases hu
 rename_i res ob hent;split at hu
 rotate_left
 ·split at hu
  rotate_left
  ·cases hu
  rename_i d' m hmr;split at hu
  rotate_left
  ·cases hu
  rename_i L' hL hok;injection hu with hu;subst hu
  obtain⟨hn,hn',hmn,hob⟩:=ho;have hn:0<n:=hn;have hn':L'.n=m:=hn';have hmn:m<=n:=hmn;obtain⟨v,ws,rfl,hv,hws⟩:=hl;have hv:e.φ b=some v:=hv;obtain rfl:=Uj hls hws;obtain⟨v',h1,h2⟩:=hM _ _ hb;rw[hv] at h1;injection h1 with h1;subst h1
  rcases h2 with⟨h2,_⟩|⟨k,c,arr,us,rest,h3,h4,rfl,h6,h7,h8,h9,h10,h11,h12⟩
  ·omega
  obtain⟨hE,_,hK⟩:=hT _ _ _ _ _ _ hF hent hob;refine⟨hE,(hK ⟨C.lo,ty,z,n,g⟩ L' d' m _ rfl hmr hL hn' hmn w k c arr us rest hg.below (hg.own b k h3).1 h6 hok h7 h8 h9 h10 hn h11 (fun j hj w' hs hk=>h12 j hj w' ⟨hs,fun i hi hno _=>hk i hi (fun h=>hno b (by rw[h3,h]))⟩)).mono ?_⟩;rintro en w' ⟨rfl,hb0,hs,hk,arr',us',rest',q1,q2,q3,q4,q5,q6⟩;refine⟨_,rfl,?_⟩;have hcok:kE C (.cells arr' ty (0,0)):=.inl ⟨_,_,rfl,hok⟩;obtain⟨e',p1,p2⟩:=ZK (v:=.slice (some ⟨k,0,none⟩) m c) (ob:=.gl ty z m L'.g) hg hf h3 h4 hs hb0 hk q1 hcok (fun e' hadv r1 r2 r3 hρ=>by
   refine⟨_,r3,.inr ⟨k,c,arr',us',rest',r1,r2,rfl,q1,q2,q3,q4,cB hmn h10,q5,fun j hj w'' hkp=>?_⟩⟩;exact q6 j hj (fun i=>(∃ b,e'.ρ b=some i)\/e'.ot i) (fun i hi=>by
    have hi:(∃ b,e.ρ b=some i)\/∃ o,w.heap[i]?=some o/\kE C o:=by
     rcases hi with⟨b0,hb0⟩|hi
     ·exact .inl (hρ b0 i hb0)
     ·rw[hadv.ext.ot] at hi;exact .inr (hg.fr.1 i hi).2
    by_cases hkk:i=k
    ·subst hkk;exact⟨_,q1,hcok⟩
    ·rcases hi with⟨b',hb'⟩|⟨o2,p2,p3⟩
     ·obtain⟨_,o2,p2,p3⟩:=hg.own b' i hb';exact⟨o2,(hk i (hg.lt hb') hkk).trans p2,p3⟩
     ·exact⟨o2,(hk i (Array.getElem?_eq_some_iff.1 p2).1 hkk).trans p2,p3⟩) w'' hkp.size (fun i hi hno=>hkp.block i hi (fun b' hb'=>hno (.inl ⟨b',hb'⟩)) (fun ho=>hno (.inr ho))))
  exact⟨e',p1,p2⟩
 rename_i d' x0 vr hmr;split at hu
 rotate_left
 ·cases hu
 rename_i L' hL hok;injection hu with hu;subst hu
 obtain⟨hn,hn',hob⟩:=ho;have hn:0<n:=hn;have hn':L'.n=n:=hn';obtain⟨v,ws,rfl,hv,hws⟩:=hl;have hv:e.φ b=some v:=hv;obtain rfl:=Uj hls hws;obtain⟨v',h1,h2⟩:=hM _ _ hb;rw[hv] at h1;injection h1 with h1;subst h1
 rcases h2 with⟨h2,_⟩|⟨k,c,arr,us,rest,h3,h4,rfl,h6,h7,h8,h9,h10,h11,h12⟩
 ·omega
 obtain⟨hE,hK,_⟩:=hT _ _ _ _ _ _ hF hent hob;refine⟨hE,(hK ⟨C.lo,ty,z,n,g⟩ L' d' _ _ _ rfl hmr hL hn' w k c arr us rest hg.below (hg.own b k h3).1 h6 hok h7 h8 h9 h10 hn h11 (fun j hj w' hs hk=>h12 j hj w' ⟨hs,fun i hi hno _=>hk i hi (fun h=>hno b (by rw[h3,h]))⟩)).mono ?_⟩;rintro en w' ⟨rfl,hb0,hs,hk,arr',us',rest',q1,q2,q3,q4,q5,q6⟩;refine⟨_,rfl,e,?_,chy hmr⟩;have hadv:Adv e w e w':=⟨Ext.refl e,hs,fun x hx hno=>⟨hno,hk x hx (fun h=>hno b (by rw[h3,h]))⟩⟩;have hown:∀ b' k',e.ρ b'=some k'->C.w0.heap.size<=k'/\∃ o,w'.heap[k']?=some o/\kE C o:=by
  intro b' k' h;obtain⟨p1,o2,p2,p3⟩:=hg.own b' k' h;refine⟨p1,?_⟩;by_cases hkk:k'=k
  ·subst hkk;exact⟨_,q1,.inl ⟨_,_,rfl,hok⟩⟩
  ·exact⟨o2,(hk k' (hg.lt h) hkk).trans p2,p3⟩
 refine⟨cb _,hadv,New.refl _ _ e,⟨hb0,hg.inj,hown,hg.fr.adv hadv⟩,?_,?_⟩
 ·intro b' o h;simp only[cP,cC] at h;split at h
  ·rename_i hbe;injection h with h;subst h
   obtain rfl:b=b':=cn hbe;refine⟨_,hv,.inr ⟨k,c,arr',us',rest',h3,h4,rfl,q1,q2,q3,q4,h10,q5,fun j hj w'' hkp=>?_⟩⟩;exact q6 j hj (fun i=>(∃ b,e.ρ b=some i)\/e.ot i) (fun i hi=>by
    rcases hi with⟨b',hb'⟩|hi
    ·exact(hown b' i hb').2
    ·exact((hg.fr.adv hadv).1 i hi).2) w'' hkp.size (fun i hi hno=>hkp.block i hi (fun b hb=>hno (.inl ⟨b,hb⟩)) (fun ho=>hno (.inr ho)))
  ·cases h
 ·intro b' o h hn;refine h.adv hadv (fun k' h1 h2=>⟨h2,?_⟩);have hbb:b'≠b:=by
   rintro rfl;simp [cP,cC] at hn
  exact hk k' (hg.lt h1) (fun hkk=>hbb (hg.inj b' b k h2 h4 (by rw[h1,hkk]) h3))
theorem ptrB_is (hM:cA C e w M) {y:AV}{q:Nat×Value×Nat×(Value->kU D)}(h:ptrB M y=some q) {v0:Value}(hy:y.is e v0) :
 ∃ k arr rest,e.ρ q.1=some k/\e.al q.1=true/\v0=.pointer (some ⟨k,0,none⟩)/\w.heap[k]?=some (.cells arr q.2.2.1 (0,0))/\arr.toList=q.2.1::rest/\
  ∀ (w':World) (arr':Array Value) (rest':List Value) (u:Value),w'.heap[k]?=some (.cells arr' q.2.2.1 (0,0))->arr'.toList=u::rest'->arr'.size=arr.size->u.oneCell'=true->cjg C e w' q.1 (q.2.2.2 u):=by
 unfold ptrB at h;split at h
 ·rename_i b;split at h
  ·rename_i ty v hb;injection h with h;subst h
   obtain⟨k,arr,vs,rest,h1,h2,h3,h4,⟨v',ws,rfl,h5,h6⟩,h7⟩:=hM _ _ hb;obtain⟨k',h8,rfl⟩:=hy;rw[h1] at h8;injection h8 with h8;subst h8
   have h5:v'=v:=h5;have h6:ws=[]:=h6;have h7:rest=[]:=h7;subst h5;subst h6;subst h7;refine⟨k,arr,[],h1,h2,rfl,h3,h4,fun w' arr' rest' u p1 p2 p3 p4=>⟨k,arr',[u],[],h1,h2,p1,?_,⟨u,[],rfl,rfl,rfl⟩,rfl⟩⟩;have e1:=cw List.length p2;have e2:=cw List.length h4;simp at e1 e2;have:rest'=[]:=List.length_eq_zero_iff.1 (by omega);rw[p2,this];rfl
  ·cases h
 ·rename_i p;split at h
  ·rename_i l hp;split at h
   ·rename_i ty g hl;split at h
    ·rename_i v hg;injection h with h;subst h
     obtain⟨k,h1,h2⟩:=hM _ _ hp;have hy:e.φ p=some v0:=hy;rw[h2] at hy;injection hy with hy
     obtain⟨v',h3,h4⟩:=hM _ _ hl;rcases h4 with⟨h4,_⟩|⟨k',c,arr,vs,rest,q1,q2,rfl,q4,q5,q6,q7,q8,q9,q10⟩
     ·cases h4
     rw[h1] at q1;injection q1 with q1;subst q1
     have hvs:vs=[v]:=by
      have:=(q10 0 (by decide)).out;rw[hg] at this;have h5:((vs.drop (0*1)).take 1).take 1=[v]:=this.1
      match vs,q6 with
      |[a],_=>simpa using h5
     subst hvs;refine⟨k,arr,rest,h1,q2,hy.symm,q4,by rw[q5];rfl,fun w' arr' rest' u p1 p2 p3 p4=>⟨_,h3,.inr ⟨k,c,arr',[u],rest',h1,q2,rfl,p1,by rw[p2];rfl,rfl,by rw[p3,q7],q8,fun x hx=>by simp at hx;subst hx;exact p4,fun j hj w'' _=>?_⟩⟩⟩;have hj:j=0:=by omega
     subst hj;exact⟨rfl,rfl⟩
    ·cases h
   ·cases h
  ·cases h
 ·cases h
theorem rdB_is (hM:cA C e w M) (hC:C.Ok) {y:AV}{p:Pat D}(h:rdB C.csz M y=some p) {v:Value}(hy:y.is e v):∀ w',jy e w w'->p.is C w' v:=by
 unfold rdB at h;split at h
 ·injection h with h;subst h
  intro w' _;show [v]=[_];rw[show v=_ from hy]
 ·rename_i s;split at h
  ·rename_i d hs;split at h
   ·rename_i hz;injection h with h;subst h
    obtain⟨f,h1,h2⟩:=hM _ _ hs;obtain⟨l,h3,h4,_⟩:=hy;rw[h1] at h3;injection h3 with h3;subst h3
    intro w' hk;have hl:=hC.len _ _ _ h2.out;rw[cn hz] at hl
    match f,hl with
    |[a],_ =>
     simp at h4;subst h4;exact h2 w' hk
   ·cases h
  ·cases h
 ·cases h
theorem cfl (hM:cA C e w M) (hC:C.Ok):∀ {l:List AV}{ps:List (Pat D)}{vs:List Value},rdBs C.csz M l=some ps->kv e l vs->∀ w',jy e w w'->cjf C w' ps vs
 |[],ps,vs,h,hv,w',_=>by simp [rdBs] at h;subst h;exact hv
 |x::l,ps,vs,h,⟨v,ws,h1,h2,h3⟩,w',hk=>by
  unfold rdBs at h;split at h
  ·rename_i p ps' hp hps;injection h with h;subst h
   exact⟨v,ws,h1,rdB_is hM hC hp h2 w' hk,cfl hM hC hps h3 w' hk⟩
  ·cases h
theorem WV:∀ {l pre:List AV}{r:List AV×(Nat×Value×Nat×(Value->kU D))×List AV}{us vs:List Value},Ko M pre l=some r->kv e pre us->kv e l vs->∃ y us1 v0 us2,ptrB M y=some r.2.1/\us++vs=us1++(v0::us2)/\kv e r.1 us1/\y.is e v0/\kv e r.2.2 us2/\us1.length=r.1.length
 |[],pre,r,us,vs,h,_,_=>by simp [Ko] at h
 |x::l,pre,r,us,vs,h,hp,⟨v,ws,h1,h2,h3⟩=>by
  unfold Ko at h;split at h
  ·rename_i q hq;injection h with h;subst h
   exact⟨x,us,v,ws,hq,by rw[h1],hp,h2,h3,hp.length⟩
  ·have:=WV h (hp.append (cs:=pre) (ds:=[x]) (ws:=[v]) ⟨v,[],rfl,h2,rfl⟩) h3;rw[uU] at this;rw[h1];exact this
theorem boxA_is (hC:C.Ok) (hT:T.Ok C) (hM:cA C e w M) (hg:Kv C e w) {f:FuncId}{d:Nat}{l:List AV}{vs:List Value}(hl:kv e l vs) (hu:boxA C.toStat T M n0 d f l=some t) (ho:cX t.ob) :
 Enters C.P f/\Calls C.P f vs.toArray w (fun en w'=>∃ v,en=.returned v/\jG C e w n0 t v w'):=by
 unfold boxA at hu;split at hu
 rotate_left
 ·cases hu
 rename_i F hF;split at hu
 rotate_left
 ·cases hu
 rename_i pre q post hsc;split at hu
 rotate_left
 ·cases hu
 rename_i ps hps;split at hu
 rotate_left
 ·cases hu
 rename_i res ob hent;split at hu
 rotate_left
 ·cases hu
 rename_i u x0 vr hbr;split at hu
 rotate_left
 ·cases hu
 rename_i hok;injection hu with hu;subst hu
 obtain⟨y,us1,v0,us2,hq,hvs,hp1,hy,hp2,hlen⟩:=WV (us:=[]) hsc rfl hl;have hvs:vs=us1++(v0::us2):=hvs;subst hvs;obtain⟨k,arr,rest,h3,h4,rfl,h6,h7,h8⟩:=ptrB_is hM hq hy;have hpk:=cfl hM hC hps (hp1.append hp2);obtain⟨hE,hK⟩:=hT _ _ _ _ _ _ hF hent ho;refine⟨hE,(hK _ u _ _ _ _ ps rfl hbr w k arr rest us1 us2 hg.below (hg.own _ k h3).1 h6 hok h7 hlen (fun w' hs hk=>hpk w' ⟨hs,fun i hi hno _=>hk i hi (fun h=>hno q.1 (by rw[h3,h]))⟩)).mono ?_⟩;rintro en w' ⟨rfl,hb0,hs,hk,arr',rest',q1,q2,q3,q4⟩;refine⟨_,rfl,e,?_,cgq hbr⟩;have hadv:Adv e w e w':=⟨Ext.refl e,hs,fun x hx hno=>⟨hno,hk x hx (fun h=>hno q.1 (by rw[h3,h]))⟩⟩;have hown:∀ b' k',e.ρ b'=some k'->C.w0.heap.size<=k'/\∃ o,w'.heap[k']?=some o/\kE C o:=by
  intro b' k' h;obtain⟨p1,o2,p2,p3⟩:=hg.own b' k' h;refine⟨p1,?_⟩;by_cases hkk:k'=k
  ·subst hkk;exact⟨_,q1,.inl ⟨_,_,rfl,hok⟩⟩
  ·exact⟨o2,(hk k' (hg.lt h) hkk).trans p2,p3⟩
 refine⟨cb _,hadv,New.refl _ _ e,⟨hb0,hg.inj,hown,hg.fr.adv hadv⟩,?_,?_⟩
 ·intro b' o h;simp only[cP,cC] at h;split at h
  ·rename_i hbe;injection h with h;subst h
   rw[← cn hbe];exact h8 w' arr' rest' u q1 q2 q3 q4
  ·cases h
 ·intro b' o h hn;refine h.adv hadv (fun k' h1 h2=>⟨h2,?_⟩);have hbb:b'≠q.1:=by
   rintro rfl;simp [cP,cC] at hn
  exact hk k' (hg.lt h1) (fun hkk=>hbb (hg.inj b' q.1 k h2 h4 (by rw[h1,hkk]) h3))
theorem YR (hC:C.Ok) (hT:T.Ok C) (hF:CF.Ok C) (hM:cA C e w M) (hg:Kv C e w) {f:FuncId}{d:Nat}{l:List AV}{vs:List Value}(hl:kv e l vs) (hu:JR C.toStat T CF M n0 d f l=some t) (hf:jC n0 t.n1 e) (ho:cX t.ob) :
 Enters C.P f/\Calls C.P f vs.toArray w (fun en w'=>∃ v,en=.returned v/\jG C e w n0 t v w'):=by
 unfold JR at hu;split at hu
 ·rename_i r hr;injection hu with hu;subst hu
  exact memA_is hT hM hg hl hr hf ho
 split at hu
 ·rename_i r hr;injection hu with hu;subst hu
  exact boxA_is hC hT hM hg hl hr ho
 split at hu
 ·rename_i F hFF;split at hu
  ·rename_i ps hps;split at hu
   ·rename_i res ob hent;split at hu
    ·rename_i x ws n1 hm;injection hu with hu;subst hu
     obtain⟨h1,h2⟩:=hT _ _ _ _ _ _ hFF hent ho;refine⟨h1,Calls.mono (h2 w vs hg.below (GO hC hg hM hps hl)) ?_⟩;rintro en w' ⟨v,rfl,h3,h4⟩;obtain⟨e',h8,h9⟩:=cds hC hg h3 hm hf h4;exact⟨v,rfl,e',h8,h9⟩
    ·cases hu
   ·cases hu
  ·cases hu
 ·exact hF e w M n0 f l vs t hM hg hl hu hf ho
theorem cdN {e:Env}:∀ {l:List AV}{bs:List A1}{vs:List Value},a1s l=some bs->kv e l vs->ke e bs vs
 |[],bs,vs,h,hv=>by simp [a1s] at h;subst h;exact hv
 |.val x::l,bs,vs,h,⟨v,ws,h1,h2,h3⟩=>by
  simp only[a1s] at h;split at h
  ·rename_i bs' hb;injection h with h;subst h
   exact⟨v,ws,h1,h2,cdN hb h3⟩
  ·cases h
 |.tup _::l,bs,vs,h,hv=>by simp [a1s] at h
theorem cgs {v:Option Value}{n:Nat}(h:cem v=some n):∃ k,v=some (.int k n):=by
 unfold cem at h;split at h
 ·rename_i k m;injection h with h;subst h
  exact⟨k,rfl⟩
 ·cases h
theorem Uk (hV:cN e a V) {x:Option Operand}{r:Option Nat}(h:kI V x=some r):(x=none/\r=none)\/∃ y k n,x=some y/\r=some n/\a.eval y=.int k (n:Nat):=by
 unfold kI at h;split at h
 ·injection h with h
  exact .inl ⟨rfl,h.symm⟩
 ·rename_i y;split at h
  ·rename_i n hn;injection h with h
   obtain⟨k,hk⟩:=cgs hn;exact .inr ⟨y,k,n,rfl,h.symm,ki hV hk⟩
  ·cases h
theorem uw {k:IntKind}{n y:Nat}{code:BoundsCode}(h:n<=y):(Instr.sliceBound (.int k n) y code).run C.P w=.ok n w:=by
 have h0:(0:Int)<=(n:Int)/\(n:Int)<=(y:Int):=by omega
 simp [Instr.sliceBound,asIntOf,h0]
theorem zF (hV:cN e a V) {lo hi mx:Option Operand}{lo' hi' mx':Option Nat}(hlo:kI V lo=some lo') (hhi:kI V hi=some hi') (hmx:kI V mx=some mx') (hne:∀ k,mx'=some k->hi'≠none) {n c:Nat}(h1:lo'.getD 0<=hi'.getD n) (h2:hi'.getD n<=mx'.getD c) (h3:mx'.getD c<=c) :
 (Instr.sliceBounds true n c (lo.map a.eval) (hi.map a.eval) (mx.map a.eval)).run C.P w=.ok (lo'.getD 0,hi'.getD n,mx'.getD c) w:=by
 unfold Instr.sliceBounds;rcases Uk hV hmx with⟨rfl,rfl⟩|⟨y1,k1,m1,rfl,rfl,e1⟩<;>rcases Uk hV hhi with⟨rfl,rfl⟩|⟨y2,k2,m2,rfl,rfl,e2⟩<;>rcases Uk hV hlo with⟨rfl,rfl⟩|⟨y3,k3,m3,rfl,rfl,e3⟩<;>simp only[Option.map_some,Option.map_none,GN,Cr] at h1 h2 h3 ⊢
 ·simp
 ·simp [e3,uw h1]
 ·simp [e2,uw h2]
 ·simp [e2,e3,uw h2,uw h1]
 ·exact absurd rfl (hne _ rfl)
 ·exact absurd rfl (hne _ rfl)
 ·simp [e1,e2,uw h2,uw h3]
 ·simp [e1,e2,e3,uw h2,uw h1,uw h3]
theorem cgv (hV:cN e a V) (hM:cA C e w M) (hg:Kv C e w) {ty:Nat}{x:Operand}{lo hi mx:Option Operand}(hu:Uf C.toStat V M n0 ty (CV V x) lo hi mx=some t) :
 ∃ v,(Instr.sliceAt ty (a.eval x) (lo.map a.eval) (hi.map a.eval) (mx.map a.eval)).run C.P w=.ok v w/\jG C e w n0 t v w:=by
 unfold Uf at hu;split at hu
 rotate_left
 ·cases hu
 rename_i el i lo' hi' mx' he hlo hhi hmx;obtain⟨hel,hinf⟩:=ka he;split at hu
 ·rename_i b o n c hb;obtain⟨k,hk,hx⟩:=cM hV hb;split at hu
  ·cases hu
  rename_i hne;split at hu
  rotate_left
  ·cases hu
  rename_i h1 h2 h3;have h1:=jh h1;have h2:=jh h2;have h3:=jh h3;have hb:=zF (C:=C) (w:=w) hV hlo hhi hmx (fun k h1 h2=>hne k h1 h2) h1 h2 h3;split at hu
  ·rename_i hbe;have hbe:=cn hbe;injection hu with hu;subst hu
   refine⟨.slice (some ⟨k,o,none⟩) (hi'.getD n-lo'.getD 0) (mx'.getD c-lo'.getD 0),?_,jG.here hg ⟨k,hk,rfl⟩⟩;simp [Instr.sliceAt,Instr.slice,hx,jm hel,hb,jD hinf,hbe]
  ·rename_i hbe;have hbe:¬ mx'.getD c=lo'.getD 0:=fun h=>by rw[h] at hbe;simp at hbe
   injection hu with hu;subst hu
   refine⟨.slice (some ⟨k,o+lo'.getD 0*i.size,none⟩) (hi'.getD n-lo'.getD 0) (mx'.getD c-lo'.getD 0),?_,jG.here hg ⟨k,hk,rfl⟩⟩;simp [Instr.sliceAt,Instr.slice,hx,jm hel,hb,jD hinf,hbe,jt]
 ·rename_i b n hb;obtain⟨k,hk,hx⟩:=cM hV hb;split at hu
  ·rename_i m;split at hu
   rotate_left
   ·cases hu
   rename_i h1 h2 h3;have h1:=cn h1;have h2:=cn h2;obtain rfl:=cn h3;injection hu with hu;subst hu
   cases hi' with
   |none=>cases h2
   |some y =>
    obtain rfl:y=0:=h2;have hbd:=zF (C:=C) (w:=w) (c:=e.κ b) (n:=n) hV hlo hhi hmx (fun k h h'=>by cases h') (by rw[h1];exact cQ _) (by simp) (by simp);refine⟨.slice (some ⟨k,0,none⟩) 0 0,?_,jG.here hg ⟨k,hk,rfl⟩⟩;simp only[GN,h1] at hbd;simp [Instr.sliceAt,Instr.slice,hx,jm hel,hbd,jD hinf]
  split at hu
  ·rename_i h1 h2;have h1:=cn h1;have h2:=jh h2;split at hu
   rotate_left
   ·cases hu
   rename_i ty' cs z hbl;split at hu
   rotate_left
   ·cases hu
   rename_i h3 h4;have h3:=jh h3;have h4:=cjh h4;injection hu with hu;subst hu
   obtain⟨k',arr,vs,rest,q1,q2,q3,q4,q5,q6⟩:=hM _ _ hbl;simp only at q6;have hκ:hi'.getD n<=e.κ b:=by
    have:=cw List.length q4;simp only[yA,kp,q5.length] at this;have:hi'.getD n*z<=e.κ b*z:=by omega
    exact cbm this h4
   have hbd:=zF (C:=C) (w:=w) (c:=e.κ b) hV hlo hhi hmx (fun k h=>by cases h) (by rw[h1];exact cQ _) (by simpa using hκ) (by simp);refine⟨.slice (some ⟨k,0,none⟩) (hi'.getD n) (e.κ b),?_,jG.here hg ⟨k,hk,rfl⟩⟩;simp only[Cr,h1] at hbd;simp [Instr.sliceAt,Instr.slice,hx,jm hel,hbd,jD hinf,jt]
  ·rename_i h1 h2;have h2:=jh h2;split at hu
   rotate_left
   ·cases hu
   rename_i ty' cs z h0 hbl;have h0:=cjh h0;split at hu
   rotate_left
   ·cases hu
   rename_i h3 h5 h4;have h3:=jh h3;have h4:=cjh h4;injection hu with hu;subst hu
   obtain⟨k',arr,vs,rest,q1,q2,q3,q4,q5,q6⟩:=hM _ _ hbl;simp only at q6;have hκ:hi'.getD n<=e.κ b:=by
    have:=cw List.length q4;simp only[yA,kp,q5.length] at this;have:hi'.getD n*z<=e.κ b*z:=by omega
    exact cbm this h4
   have hbd:=zF (C:=C) (w:=w) (c:=e.κ b) hV hlo hhi hmx (fun k h=>by cases h) (uK h0) (by simpa using hκ) (by simp);have hne:¬ e.κ b=lo'.getD 0:=by omega
   refine⟨.slice (some ⟨k,lo'.getD 0*i.size,none⟩) (hi'.getD n-lo'.getD 0) (e.κ b-lo'.getD 0),?_,jG.here hg ⟨k,hk,rfl⟩⟩;simp only[Cr] at hbd;simp [Instr.sliceAt,Instr.slice,hx,jm hel,hbd,jD hinf,hne,jt]
  ·cases hu
 ·cases hu
theorem cgU (hC:C.Ok) (hV:cN e a V) (hM:cA C e w M) (hg:Kv C e w) {ats:List Nat}{x:Operand}(hu:KS C.toStat M n0 ats (CV V x)=some t) (ty:Nat) :
 ∃ v w',(Builtin.clear_ ats.toArray ty #[a.eval x]).run C.P w=.ok v w'/\jG C e w n0 t v w':=by
 unfold KS at hu;split at hu
 rotate_left
 ·cases hu
 rename_i T1;split at hu
 rotate_left
 ·cases hu
 rename_i el i b o n he hb;obtain⟨hel,hinf⟩:=ka he;obtain⟨k,c,hk,hx⟩:=cbk hV hb;split at hu
 rotate_left
 ·cases hu
 rename_i z0 ty' ds z hz0 hbl;split at hu
 rotate_left
 ·cases hu
 rename_i h1 h2 h3 h4;have h1:=cn h1;have h2:=jh h2;have h4:=cjh h4;injection hu with hu;subst hu
 obtain⟨k',arr,vs,rest,q1,q2,q3,q4,q5,q6⟩:=hM _ _ hbl;rw[hk] at q1;injection q1 with q1;subst q1
 have hvl:=q5.length;have hzc:(Builtin.zeroCells z0.cells n).toList=(List.replicate n z0.cells.toList).flatten:=CT z0.cells n;have hzl:(Builtin.zeroCells z0.cells n).toList.length=n*i.size:=by rw[yA,Ej,h1]
 have hone:∀ v∈(Builtin.zeroCells z0.cells n).toList,v.oneCell'=true:=by
  rw[hzc];intro v hv;obtain⟨l,h5,h6⟩:=List.mem_flatten.1 hv;rw[ceO h5] at h6;exact zL hC hM h3 (zW e _) v h6
 obtain⟨w',arr',r1,r2,r3,r4⟩:=zV C.P k ty' (Builtin.zeroCells z0.cells n).toList 0 o w (vs.take o) ((vs.drop o).take (n*i.size)) (vs.drop (o+n*i.size)++rest) arr q3 (by
  rw[q4]
  conv=>lhs;rw[← jZ o vs,← jZ (n*i.size) (vs.drop o)]
  simp [uF]) (by simp;omega) (by rw[hzl];simp only[ji,kL];omega) hone
 refine⟨.tuple #[],w',?_,e,?_,[],rfl,rfl⟩
 ·have hn:n≠0:=by omega
  cases n with
  |zero=>exact absurd rfl hn
  |succ n=>simp [Builtin.clear_,jm hel,hx,zeroValue,typeInfo,hinf,hz0,r1]
 ·refine Jz hg hk q2 q3 r4 r2 (vs':=vs.take o++((Builtin.zeroCells z0.cells n).toList++vs.drop (o+n*i.size))) (rest':=rest) (by rw[r3];simp) (q5.take.append ((by rw[hzc];exact YJ e _ n:cjd e _ _).append q5.drop)) ?_;cases z with
  |none=>exact q6
  |some z =>
   simp only at q6 ⊢;rw[← q6];have e1:=cw List.length q4;have e2:=cw List.length r3;simp only[kp,ji,kL,hzl] at e1 e2;simp only[yA] at e1 e2;omega
end
variable {D:Type}
def uy (C:Ctx D) (YF:cz D):Prop:=∀ e w M n0 b l vs t,cA C e w M->Kv C e w->kv e l vs->YF M n0 b l=some t->jC n0 t.n1 e->cX t.ob->
 ∃ k r,e.ρ b=some k/\w.heap[k]?=some (.loop r)/\vs.length=r.params.size/\∀ F m,Wd F->RoundIn F m C.P k r.fn ((r.params.zip vs.toArray).foldl (fun tmps (t,a)=>tmps.setIfInBounds t a) r.tmps) r.assign r.body w (fun en w'=>∃ v,en=.returned v/\jG C e w n0 t v w')
section
variable {F:Fence}{m:Nat}{YF:cz D}
variable {C:Ctx D}{e:Env}{a:Act}{w:World}{V:cR}{M:ct D}{T:Tab D}{CF:cz D}{n0:Nat}{K:Act->World->Prop}{Q:Exit->Act->World->Prop}{o:Oper}{t:Out D}
theorem Gf {P:Program}{s f:Nat}{fl:Field}(h:En P s f=some fl):∃ fs,P.underlying s=some (.struct fs)/\fs[f]?=some fl:=by
 unfold En at h;split at h
 ·exact⟨_,by assumption,h⟩
 ·cases h
theorem JA (P:Program) (t:TypeId) (v:Value):(newVar t v).run P w=.ok ⟨w.heap.size,0,none⟩ { w with heap:=w.heap.push (.cells v.cells t) }:=by
 simp [newVar,newRow]
theorem cbl (hW:Wd F) (hnd:ui o) {c:Call}{fo:Operand}{f:FuncId}{p q:List Value}(hop:o.op=.call c) (hcal:c.callee=.value fo) (hfo:a.eval fo=.func (.func f) p.toArray q.toArray)
 (h:Enters C.P f/\Calls C.P f (p++(c.args.toList.map a.eval++q)).toArray w (fun en w'=>∃ v,en=.returned v/\jG C e w n0 t v w')) (hK:∀ v w',jG C e w n0 t v w'->K (a.put o.dst v) w'):o.wpIn F m C.P a w K Q:=by
 have hr:(execOp a.eval o).run C.P w=.ok (.enter f (p++(c.args.toList.map a.eval++q)).toArray) w:=by
  have he:=h.1 (p.toArray++c.args.map a.eval++q.toArray) w;have hx:(p++(c.args.toList.map a.eval++q)).toArray=p.toArray++c.args.map a.eval++q.toArray:=by
   apply uJ;simp
  rw[hx];simp [execOp,hop,resolve,hcal,hfo,Deferred.ofValue,invoke];simpa using he
 refine⟨fun f _=>hW.fn f,?_⟩;rw[Ei _ _ _ hnd,hr];refine⟨fun hd=>(by rw[hW.depth] at hd;cases hd),CallsIn.mono (hW.calls h.2) ?_⟩;rintro en w' ⟨v,rfl,hd⟩;exact hK v w' hd
theorem cit (hW:Wd F) (hnd:ui o) (hY:uy C YF) (hV:cN e a V) (hM:cA C e w M) (hg:Kv C e w) {c:Call}{fo:Operand}{b:Nat}{l:List AV}(hop:o.op=.call c) (hcal:c.callee=.value fo) (hfo:CV V fo=some (.val (.one (.yld b)))) (hl:CP V c.args.toList=some l)
 (hu:YF M n0 b l=some t) (hf:jC n0 t.n1 e) (ho:cX t.ob) (hK:∀ v w',jG C e w n0 t v w'->K (a.put o.dst v) w'):o.wpIn F m C.P a w K Q:=by
 obtain⟨k,r,h1,h2,h3,h4⟩:=hY e w M n0 b l _ t hM hg (uZ hV hl) hu hf ho;obtain⟨k',h5,h6⟩:=cM hV hfo;rw[h1] at h5;injection h5 with h5;subst h5
 have hargs:c.args.map a.eval=(c.args.toList.map a.eval).toArray:=by
  apply uJ;simp
 have hr:(execOp a.eval o).run C.P w=.ok (.round k r.fn ((r.params.zip (c.args.toList.map a.eval).toArray).foldl (fun tmps (t,a)=>tmps.setIfInBounds t a) r.tmps) r.assign r.body) w:=by
  have hy:=run_yield (P:=C.P) h2 (args:=(c.args.toList.map a.eval).toArray) (by simpa using h3);simp only[execOp,hop,resolve,hcal,h6,Deferred.ofValue,hargs];simpa [invoke] using hy
 refine⟨fun f _=>hW.fn f,?_⟩;rw[Ei _ _ _ hnd,hr];refine⟨fun hd=>(by rw[hW.depth] at hd;cases hd),RoundIn.mono (h4 F (m-1) hW) ?_⟩;rintro en w' ⟨v,rfl,hd⟩;exact hK v w' hd
theorem map_nil {o:Option Operand}(f:Operand->Option Value) (h:o.map f=none):o=none:=by cases o<;>simp_all
set_option maxHeartbeats 2000000 in
theorem cgO (hW:Wd F) (hC:C.Ok) (hT:T.Ok C) (hF:CF.Ok C) (hY:uy C YF) (hV:cN e a V) (hM:cA C e w M) (hg:Kv C e w) (hu:cjq C.toStat T CF YF V M n0 o=some t) (hf:jC n0 t.n1 e) (ho:cX t.ob)
 (hK:∀ v w',jG C e w n0 t v w'->K (a.put o.dst v) w'):o.wpIn F m C.P a w K Q:=by
 have hnd:ui o:=by
  intro c hc;rw[KO] at hu;unfold Wn at hu;rw[hc] at hu;cases hu
 rw[KO] at hu;unfold Wn at hu;simp only at hu;split at hu
 ·rename_i x hop;split at hu
  ·rename_i v hv;exact kY hW hnd hg hu (by simp [execOp,hop]) (cM hV hv) hK
  ·cases hu
 ·rename_i x hop;split at hu
  ·rename_i v hv;exact kY hW hnd hg hu (by simp [execOp,hop]) (cM hV hv) hK
  ·cases hu
 ·rename_i c x y hop;split at hu
  ·rename_i hc;have hc:=ki hV hc;split at hu
   ·rename_i v hv;exact kY hW hnd hg hu (v:=a.eval x) (by simp [execOp,hop,hc,asBool]) (cM hV hv) hK
   ·cases hu
  ·rename_i hc;have hc:=ki hV hc;split at hu
   ·rename_i v hv;exact kY hW hnd hg hu (v:=a.eval y) (by simp [execOp,hop,hc,asBool]) (cM hV hv) hK
   ·cases hu
  ·cases hu
 ·rename_i ty hop;split at hu
  ·rename_i i hi;split at hu
   ·rename_i z hz;refine cJ hW hnd (v:=.pointer (some ⟨w.heap.size,0,none⟩)) (w':={ w with heap:=w.heap.push (.cells z.cells ty) }) ?_ (hK _ _ (GB hg hu hf (yI _ _) (arr:=z.cells) (by simp) (zW e _) (fun e' he=>⟨_,he,rfl⟩)));simp [execOp,hop,Instr.alloc,zeroValue,typeInfo,hi,hz,JA]
   ·cases hu
  ·cases hu
 ·rename_i ty x hop;split at hu
  ·rename_i y hy;split at hu
   ·rename_i hs;have hx:=cM hV hy;refine cJ hW hnd (v:=.pointer (some ⟨w.heap.size,0,none⟩)) (w':={ w with heap:=w.heap.push (.cells (a.eval x).cells ty) }) ?_ (hK _ _ (GB hg hu hf (yI _ _) (arr:=(a.eval x).cells) (by simp) (A1.cells_are hC hM hx hs) (fun e' he=>⟨_,he,rfl⟩)));simp [execOp,hop,Instr.box,JA]
   ·cases hu
  ·cases hu
 ·rename_i ty parts hop;split at hu
  ·rename_i i hi;split at hu
   ·rename_i z hz;split at hu
    ·rename_i fs hfs;split at hu
     ·rename_i hall;split at hu
      ·rename_i cs hcs;have hm:∀ (l:List Field),(l.all fun f=>(C.P.info? f.type).isSome)=true->∃ r,(l.mapM (m:=Sem) fun f=>Prod.mk f.offset <$> sizeOf f.type).run C.P w=.ok r w/\∀ (j:Nat) (f:Field) (inf:TypeInfo),l[j]?=some f->C.P.info? f.type=some inf->r[j]?=some (f.offset,inf.size):=by
        intro l
        induction l with
        |nil=>intro _;exact⟨[],by simp,fun j f inf h=>by simp at h⟩
        |cons f l ih =>
         intro hl;simp only[List.all_cons,GA] at hl;obtain⟨r,hr,hr2⟩:=ih hl.2;obtain⟨j,hj⟩:=Option.isSome_iff_exists.1 hl.1;refine⟨(f.offset,j.size)::r,by simp [List.mapM_cons,jD hj,hr],?_⟩;intro x g inf hx hinf;cases x with
         |zero=>simp at hx;subst hx;rw[hj] at hinf;injection hinf with hinf;subst hinf;rfl
         |succ x=>simpa using hr2 x g inf (by simpa using hx) hinf
       obtain⟨r,hr,hr2⟩:=hm fs.toList hall;obtain⟨us,hus,hfill⟩:=cdl hC hV hM (z:=z.cells) (place:=fun i=>r.toArray[i]?) (fun j f inf h1 h2=>by simpa using hr2 j f inf h1 h2) hcs (zW e z.cells.toList);refine kY hW hnd hg hu (v:=.agg us.toArray) ?_ ⟨us,hus,rfl⟩ hK;have hfill':Instr.fill (fun i=>r.toArray[i]?) z.cells (parts.map fun(i,x)=>(i,a.eval x)).toList=some us.toArray:=by
        rw[Array.toList_map];exact hfill
       simp only[execOp,hop,Instr.build,zeroValue,typeInfo,underlying,jA,Ju,kG,hi,hz,hfs,ER,cbU,Sem.run_map];rw[show (fun(f:Field)=>(do let __do_lift ← sizeOf f.type;pure (f.offset,__do_lift):Sem (Nat×Nat)))=(fun f=>Prod.mk f.offset <$> sizeOf f.type) from rfl];simp only[hr,kG];rw[hfill'];rfl
      ·cases hu
     ·cases hu
    ·cases hu
   ·cases hu
  ·cases hu
 ·rename_i ty x hop;split at hu
  ·rename_i b p hb;obtain⟨k,hk,hx⟩:=Zb hV hb;split at hu
   ·rename_i y hy;obtain⟨v,h1,h2⟩:=Zv hM hk hy;exact kY hW hnd hg hu (v:=v) (by simp [execOp,hop,hx,Instr.loadAt,Instr.sureAddr,h1]) h2 hK
   ·cases hu
  ·exact yv hW hnd hC hT hV hM hg (by simp [cjk,hop]) (by simp) hu hf ho hK
 ·rename_i ty x y hop;split at hu
  ·rename_i b p hb;obtain⟨k,hk,hx⟩:=Zb hV hb;split at hu
   ·rename_i z hz;obtain⟨w',h1,h2⟩:=cgL hC hM hg hk (cM hV hz) hu;have:(execOp a.eval o).run C.P w=.ok .skip w':=by simp [execOp,hop,hx,Instr.storeAt,Instr.sureAddr,h1]
    refine⟨fun f _=>hW.fn f,?_⟩;rw[Ei _ _ _ hnd,this];exact hK _ _ h2
   ·cases hu
  ·cases hu
 ·rename_i x hop;split at hu
  ·rename_i b p hb;obtain⟨k,hk,hx⟩:=cM hV hb;exact kY hW hnd hg hu (v:=.pointer (some ⟨k,p,none⟩)) (by simp [execOp,hop,hx]) ⟨k,hk,rfl⟩ hK
  ·rename_i c hc;split at hu
   ·rename_i f ps qs hcl;obtain⟨p,q,h1,_,_⟩:=hM _ _ hcl;have hx:e.φ c=some (a.eval x):=cM hV hc;have hx':=hx;rw[h1] at hx';injection hx' with hx'
    exact kY hW hnd hg hu (v:=a.eval x) (by rw[← hx'];simp [execOp,hop,← hx']) hx hK
   ·cases hu
  ·rename_i f p q hc;have hx:=cM hV hc;have hx:a.eval x=.func (.func f) p q:=hx;exact kY hW hnd hg hu (v:=a.eval x) (by simp [execOp,hop,hx]) hx hK
  ·cases hu
 ·rename_i op ty x y u hop;split at hu
  ·rename_i r hr;injection hu with hu;subst hu
   exact yv hW hnd hC hT hV hM hg (by simp [cjk,hop]) (by simp) hr hf ho hK
  ·split at hu
   ·rename_i vx vy h1 h2;have h1:=yY hV h1;have h2:=yY hV h2;refine zK hW hnd hg hu (fun v w' hr=>?_) hK;simp only[execOp,hop,h1,h2,jA];simp only[jA] at hr;rw[hr];rfl
   ·cases hu
 ·rename_i op ty x hop;split at hu
  ·rename_i r hr;injection hu with hu;subst hu
   exact yv hW hnd hC hT hV hM hg (by simp [cjk,hop]) (by simp) hr hf ho hK
  ·split at hu
   ·rename_i vx h1;have h1:=ki hV h1;exact zK hW hnd hg hu (fun v w' hr=>by simp [execOp,hop,h1,hr]) hK
   ·cases hu
 ·rename_i s d x hop;split at hu
  ·rename_i r hr;injection hu with hu;subst hu
   exact yv hW hnd hC hT hV hM hg (by simp [cjk,hop]) (by simp) hr hf ho hK
  ·split at hu
   ·rename_i vx h1;have h1:=ki hV h1;exact zK hW hnd hg hu (fun v w' hr=>by simp [execOp,hop,h1,hr]) hK
   ·cases hu
 ·rename_i ty x lo hi mx hop;split at hu
  ·rename_i r hr;injection hu with hu;subst hu
   obtain⟨v,h1,h2⟩:=cgv hV hM hg hr;exact cJ hW hnd (by simp [execOp,hop,h1]) (hK _ _ h2)
  ·split at hu
   ·rename_i vx hx hn;have hx:=ki hV hx;split at hu
    ·rename_i vl vh h1 h2;obtain⟨y1,rfl,g1⟩:=Option.map_eq_some_iff.1 h1;obtain⟨y2,rfl,g2⟩:=Option.map_eq_some_iff.1 h2;exact zK hW hnd hg hu (fun v w' hr=>by simp [execOp,hop,hx,ki hV g1,ki hV g2,hr]) hK
    ·rename_i vl h1 h2;obtain⟨y1,rfl,g1⟩:=Option.map_eq_some_iff.1 h1;obtain rfl:=map_nil _ h2;exact zK hW hnd hg hu (fun v w' hr=>by simp [execOp,hop,hx,ki hV g1,hr]) hK
    ·rename_i vl h1 h2;obtain⟨y2,rfl,g2⟩:=Option.map_eq_some_iff.1 h2;obtain rfl:=map_nil _ h1;exact zK hW hnd hg hu (fun v w' hr=>by simp [execOp,hop,hx,ki hV g2,hr]) hK
    ·rename_i h1 h2;obtain rfl:=map_nil _ h1;obtain rfl:=map_nil _ h2;exact zK hW hnd hg hu (fun v w' hr=>by simp [execOp,hop,hx,hr]) hK
    ·cases hu
   ·exact yv hW hnd hC hT hV hM hg (by simp [cjk,hop]) (by simp) hu hf ho hK
 ·rename_i ty l c hop;split at hu
  ·rename_i r hr;injection hu with hu;subst hu
   cases hl:lit? (CV V l) with
   |none=>rw[hl] at hr;simp [mkA] at hr
   |some vl =>
    cases hc:lit? (CV V c) with
    |none=>rw[hl,hc] at hr;unfold mkA at hr;split at hr<;>simp_all
    |some vc =>
     rw[hl,hc] at hr;obtain⟨v,w',h1,h2⟩:=mkA_is hg hr hf;exact cJ hW hnd (w':=w') (by simp [execOp,hop,ki hV hl,ki hV hc,h1]) (hK _ _ h2)
  ·exact yv hW hnd hC hT hV hM hg (by simp [cjk,hop]) (by simp) hu hf ho hK
 ·rename_i ty x i hop;split at hu
  ·rename_i vx vi h1 h2;exact zK hW hnd hg hu (fun v w' hr=>by simp [execOp,hop,yY hV h1,ki hV h2,hr]) hK
  ·exact yv hW hnd hC hT hV hM hg (by simp [cjk,hop]) (by simp) hu hf ho hK
 ·rename_i s x f hop;split at hu
  ·rename_i b p hb;obtain⟨k,hk,hx⟩:=Zb hV hb;split at hu
   ·rename_i fl hfl;obtain⟨fs,h1,h2⟩:=Gf hfl;split at hu
    ·rename_i i hi;split at hu
     ·cases hu
     ·rename_i n hsz;refine kY hW hnd hg hu (v:=.pointer (some ⟨k,p+fl.offset,none⟩)) ?_ ⟨k,hk,rfl⟩ hK;simp [execOp,hop,hx,Instr.fieldAt,underlying,h1,h2,Instr.sureAddr,fieldPlace,jD hi,hsz,jt]
    ·cases hu
   ·cases hu
  ·exact yv hW hnd hC hT hV hM hg (by simp [cjk,hop]) (by simp) hu hf ho hK
 ·rename_i f first cap hop
  split at hu
  ·rename_i xs ys h1 h2;split at hu
   ·rename_i ps qs h3 h4;injection hu with hu;subst hu
    obtain⟨e',h5,h6⟩:=left_fn (f:=f) hg hf (cdN h3 (uZ hV h1)) (cdN h4 (uZ hV h2));refine cJ hW hnd (v:=.func (.func f) (first.toList.map a.eval).toArray (cap.toList.map a.eval).toArray) ?_ (hK _ _ ⟨e',h5,h6⟩);simp only[execOp,hop,Instr.makeFunc,jA,ER,kG,Result.ok.injEq,Next.value.injEq,Value.func.injEq,true_and,and_true];exact⟨by apply uJ;simp,by apply uJ;simp⟩
   ·cases hu
  ·cases hu
 ·rename_i ty x f hop;split at hu
  ·rename_i cs hcs;obtain⟨vs,hvs,hx⟩:=cM hV hcs;split at hu
   ·rename_i fl hfl;obtain⟨fs,h1,h2⟩:=Gf hfl;split at hu
    ·rename_i d hd;split at hu
     ·rename_i hagg;split at hu
      ·rename_i i hi;refine kY hW hnd hg hu (v:=.agg ((vs.drop fl.offset).take i.size).toArray) ?_ ⟨_,hvs.drop.take,rfl⟩ hK;have hxx:vs.toArray.extract fl.offset (fl.offset+i.size)=((vs.drop fl.offset).take i.size).toArray:=by
        simp [List.extract_eq_take_drop]
       simp [execOp,hop,hx,Instr.field,underlying,h1,h2,asAgg,part,yK hd,hagg,jD hi,List.extract_eq_take_drop]
      ·cases hu
     ·rename_i hagg;split at hu
      ·rename_i c hc;obtain⟨v,h3,h4⟩:=hvs.get _ _ hc;refine kY hW hnd hg hu (v:=v) ?_ h4 hK;simp [execOp,hop,hx,Instr.field,underlying,h1,h2,asAgg,part,yK hd,hagg,h3]
      ·cases hu
    ·cases hu
   ·cases hu
  ·cases hu
 ·rename_i x i hop;split at hu
  ·rename_i l hl;obtain⟨vs,hvs,hx⟩:=cM hV hl;split at hu
   ·rename_i y hy;obtain⟨v,h3,h4⟩:=hvs.get _ _ hy;refine kY hW hnd hg hu (v:=v) ?_ h4 hK;simp [execOp,hop,hx,Instr.extract,h3]
   ·cases hu
  ·cases hu
 ·rename_i ty n parts hop;obtain⟨v,w',h1,h2⟩:=bsA_is hC hV hM hg hu hf;exact cJ hW hnd (w':=w') (by simp only[execOp,hop,jA,h1,kG];rfl) (hK _ _ h2)
 ·rename_i ty x i hop;split at hu
  ·rename_i b p n j el hb hj hel;obtain⟨k,c,hk,hx⟩:=cbk hV hb;have hi:=ki hV hj;split at hu
   ·rename_i hlt;have hlt:=cjh hlt;split at hu
    ·rename_i inf hinf;refine kY hW hnd hg hu (v:=.pointer (some ⟨k,p+j*inf.size,none⟩)) ?_ ⟨k,hk,rfl⟩ hK;have h0:(0:Int)<=Int.ofNat j/\Int.ofNat j<n:=⟨Uy j,Int.ofNat_lt.2 hlt⟩;simp only[execOp,hop,hx,hi,Instr.indexAt,asIntOf,underlying,jA,ER,Ju,kG,hel,cq h0,jD hinf,jt];rfl
    ·cases hu
   ·cases hu
  ·exact yv hW hnd hC hT hV hM hg (by simp [cjk,hop]) (by simp) hu hf ho hK
 ·rename_i c hop;split at hu
  ·rename_i fo hcal;split at hu
   ·rename_i f l hfo hl;have hfo:a.eval fo=.func (.func f) #[] #[]:=cM hV hfo;refine cbl hW hnd (p:=[]) (q:=[]) hop hcal hfo ?_ hK;have:=YR hC hT hF hM hg (uZ hV hl) hu hf ho;simpa using this
   ·rename_i k l hfo hl;have hfo:e.φ k=some (a.eval fo):=cM hV hfo;split at hu
    ·rename_i f ps qs hcl;obtain⟨p,q,h1,h2,h3⟩:=hM _ _ hcl;rw[hfo] at h1;injection h1 with h1
     exact cbl hW hnd hop hcal h1 (YR hC hT hF hM hg ((ub h2).append ((uZ hV hl).append (ub h3))) hu hf ho) hK
    ·cases hu
   ·rename_i k l hfo hl;exact cit hW hnd hY hV hM hg hop hcal hfo hl hu hf ho hK
   ·cases hu
  ·rename_i hcal;split at hu
   ·rename_i x hargs;have ha:c.args.map a.eval=#[a.eval x]:=by
     apply uJ;simp [hargs]
    split at hu
    ·rename_i b p n ty hb hty;obtain⟨k,cp,hk,hx⟩:=cbk hV hb;split at hu
     ·rename_i el hel;refine kY hW hnd hg hu (v:=goInt n) ?_ rfl hK;have hty':c.argTypes[0]?=some ty:=hty;simp [execOp,hop,resolve,hcal,ha,invoke,builtin,Builtin.len_,hty',jm hel,hx]
     ·cases hu
    ·split at hu
     ·rename_i vx hx;have hx:=yY hV hx;exact zK hW hnd hg hu (fun v w' hr=>by simp [execOp,hop,resolve,hcal,ha,invoke,builtin,hx,hr]) hK
     ·exact yv hW hnd hC hT hV hM hg (by simp [cjk,hop,hcal,hargs]) (by simp) hu hf ho hK
   ·cases hu
  ·rename_i hcal;split at hu
   ·rename_i s x hargs;have ha:c.args.map a.eval=#[a.eval s,a.eval x]:=by
     apply uJ;simp [hargs]
    split at hu
    ·rename_i y hy;obtain⟨v,w',h1,h2⟩:=cec hC hM hg hu (cM hV hy) (vx:=a.eval x) (fun z hz=>cM hV hz) hf o.type;have h1:(Builtin.append_ c.argTypes o.type #[a.eval s,a.eval x]).run C.P w=.ok v w':=by simpa using h1
     exact cJ hW hnd (w':=w') (by simp [execOp,hop,resolve,hcal,ha,invoke,builtin,h1]) (hK _ _ h2)
    ·cases hu
   ·cases hu
  ·rename_i hcal;split at hu
   ·rename_i x hargs;have ha:c.args.map a.eval=#[a.eval x]:=by
     apply uJ;simp [hargs]
    obtain⟨v,w',h1,h2⟩:=cgU hC hV hM hg hu o.type;have h1:(Builtin.clear_ c.argTypes o.type #[a.eval x]).run C.P w=.ok v w':=by simpa using h1
    exact cJ hW hnd (w':=w') (by simp [execOp,hop,resolve,hcal,ha,invoke,builtin,h1]) (hK _ _ h2)
   ·cases hu
  ·rename_i b _ _ _ hcal;exact yv hW hnd hC hT hV hM hg (by simp [cjk,hop,hcal]) (by simp) hu hf ho hK
  ·cases hu
 ·cases hu
end
variable {D:Type}
def UD (csz:D->Nat):List (Grp D)->Nat->Option (List (Grp D))
 |gs,0=>some gs
 |[],_+1=>none
 |g::gs,o+1=>match Nat.ble (g.n csz) (o+1) with
  |true=>UD csz gs (o+1-g.n csz)
  |false=>none
def CE (csz:D->Nat):List (Grp D)->Nat->Option (List (Grp D))
 |_,0=>some []
 |[],_+1=>none
 |g::gs,m+1=>match Nat.ble (g.n csz) (m+1) with
  |true=>match CE csz gs (m+1-g.n csz) with
   |some l=>some (g::l)
   |none=>none
  |false=>none
def subG (csz:D->Nat) (gs:List (Grp D)) (o m:Nat):Option (List (Grp D)) :=
 match UD csz gs o with
 |some l=>CE csz l m
 |none=>none
section
variable {C:Ctx D}{w:World}
theorem Yk:∀ {gs r:List (Grp D)}{o:Nat}{vs:List Value},UD C.csz gs o=some r->Gw C w gs vs->Gw C w r (vs.drop o)
 |[],r,0,vs,h,hv=>by simp [UD] at h;subst h;simpa using hv
 |_::_,r,0,vs,h,hv=>by simp [UD] at h;subst h;simpa using hv
 |[],r,o+1,vs,h,hv=>by simp [UD] at h
 |g::gs,r,o+1,vs,h,hv=>by
  unfold UD at h;split at h
  ·rename_i hle;have hle:=jh hle;have:=Yk h hv.2;rw[uF] at this
   rwa [show g.n C.csz+(o+1-g.n C.csz)=o+1 by omega] at this
  ·cases h
theorem WO:∀ {gs r:List (Grp D)}{m:Nat}{vs:List Value},CE C.csz gs m=some r->Gw C w gs vs->Gw C w r (vs.take m)
 |[],r,0,vs,h,hv=>by simp [CE] at h;subst h;simp [Gw]
 |_::_,r,0,vs,h,hv=>by simp [CE] at h;subst h;simp [Gw]
 |[],r,m+1,vs,h,hv=>by simp [CE] at h
 |g::gs,r,m+1,vs,h,hv=>by
  unfold CE at h;split at h
  ·rename_i hle;have hle:=jh hle;split at h
   ·rename_i l hl;injection h with h;subst h
    have:=WO hl hv.2;refine⟨?_,?_⟩
    ·rw[List.take_take,kQ hle];exact hv.1
    ·rw[List.drop_take];exact this
   ·cases h
  ·cases h
theorem cbd {gs r:List (Grp D)}{o m:Nat}{vs:List Value}(h:subG C.csz gs o m=some r) (hv:Gw C w gs vs):Gw C w r ((vs.drop o).take m):=by
 unfold subG at h;split at h
 ·rename_i l hl;exact WO h (Yk hl hv)
 ·cases h
theorem cbr (hC:C.Ok) {g:Grp D}{vs:List Value}(h:g.is C w vs):vs.length=g.n C.csz:=by
 cases g with
 |lit v=>rw[show vs=[v] from h];rfl
 |cls d=>exact hC.len _ _ _ h
theorem WJ (hC:C.Ok):∀ {gs hs:List (Grp D)}{us vs:List Value},Gw C w gs us->Gw C w hs vs->Gw C w (gs++hs) (us++vs)
 |[],hs,us,vs,h,k=>by rw[show us=[] from h];exact k
 |g::gs,hs,us,vs,h,k=>by
  have hl:=cbr hC h.1;have hle:g.n C.csz<=us.length:=by
   rw[ji] at hl;omega
  refine⟨?_,?_⟩
  ·rw[WN hle];exact h.1
  ·rw[caF hle];exact WJ hC h.2 k
def cfg (vs:List Value):List (Grp D):=vs.map .lit
theorem KK:∀ (vs:List Value),Gw C w (cfg vs) vs
 |[]=>rfl
 |v::vs=>⟨rfl,KK vs⟩
end
theorem Wf {α:Type}(l us:List α) (a x:Nat) (h:a+us.length<=l.length):(l.take a++(us++l.drop (a+us.length)))[x]?=if x<a then l[x]? else if x<a+us.length then us[x-a]? else l[x]?:=by
 have ha:(l.take a).length=a:=by rw[ji];omega
 split
 ·rename_i hx;rw[JO (by omega),kB,cq hx]
 ·rename_i hx;rw[Yp (by omega),ha];split
  ·rename_i hx2;rw[JO (by omega)]
  ·rename_i hx2;rw[Yp (by omega),kJ];congr 1;omega
theorem cgN {α:Type}(l us:List α) {i j z p:Nat}(hp:p+us.length<=z) (hj:j≠i) (hl:i*z+z<=l.length):((l.take (i*z+p)++(us++l.drop (i*z+p+us.length))).drop (j*z)).take z=(l.drop (j*z)).take z:=by
 apply yz;intro x;rw[kB,kB];split
 ·rename_i hx;rw[kJ,kJ,Wf _ _ _ _ (by omega)];rcases jj j i with h|h
  ·have:(j+1)*z<=i*z:=cK z h;rw[cD,jI] at this;rw[cq (by omega)]
  ·have:(i+1)*z<=j*z:=cK z (by omega);rw[cD,jI] at this;rw[cf (by omega),cf (by omega)]
 ·rfl
theorem chN {α:Type}(l us:List α) {i z p:Nat}(hp:p+us.length<=z) (hl:i*z+z<=l.length):((l.take (i*z+p)++(us++l.drop (i*z+p+us.length))).drop (i*z)).take z=((l.drop (i*z)).take z).take p++(us++((l.drop (i*z)).take z).drop (p+us.length)):=by
 apply yz;intro x;have hz:((l.drop (i*z)).take z).length=z:=by simp;omega
 rw[Wf _ _ _ _ (by omega),kB];split
 ·rename_i hx;rw[kJ,Wf _ _ _ _ (by omega)];by_cases h1:x<p
  ·rw[cq (by omega),cq h1,kB,cq hx,kJ]
  ·by_cases h2:x<p+us.length
   ·rw[cf (by omega),cq (by omega),cf h1,cq h2];congr 1;omega
   ·rw[cf (by omega),cf (by omega),cf h1,cf h2,kB,cq hx,kJ]
 ·rename_i hx;rw[cf (by omega),cf (by omega),kB,cf hx]
structure Src (D:Type) where
 own:Bool
 id:Nat
 L:Lt D
def UZ (S:Stat D) (M:ct D):Option AV->Option (Src D)
 |some (.val (.one (.fn b)))=>match M b with
  |some (.gl ty z n g)=>some ⟨true,b,⟨S.lo,ty,z,n,g⟩⟩
  |_=>none
 |some (.val (.one (.sym s 0)))=>match M s with
  |some (.cls d)=>match S.unL d with
   |some L=>match Nat.beq (S.csz d) 1 with
    |true=>some ⟨false,s,L⟩
    |false=>none
   |none=>none
  |_=>none
 |_=>none
def ccR (C:Ctx D) (e:Env) (w:World) (L:Lt D) (v:Value):Prop :=
 (L.n=0/\∃ a,v=.slice a 0 0)\/∃ k o c arr pre vs rest,v=.slice (some ⟨k,o,none⟩) L.n c/\L.n<=c/\(∃ fr,w.heap[k]?=some (.cells arr L.ty fr))/\arr.toList=pre++vs++rest/\pre.length=o/\vs.length=L.n*L.z/\(∀ v∈vs,v.oneCell'=true)/\∀ j,j<L.n->Cd C e w (L.g j) ((vs.drop (j*L.z)).take L.z)
section
variable {C:Ctx D}{e:Env}{w w':World}{a:Act}{V:cR}{M:ct D}{n0:Nat}
theorem ccR.shape {L:Lt D}{v:Value}(h:ccR C e w L v):∃ ao c,v=.slice ao L.n c/\L.n<=c:=by
 rcases h with⟨h1,a,rfl⟩|⟨k,o,c,_,_,_,_,rfl,h1,_⟩
 ·exact⟨a,0,by rw[h1],by omega⟩
 ·exact⟨_,c,rfl,h1⟩
theorem ZB (hC:C.Ok) (hg:Kv C e w) {d:D}{L:Lt D}{f:List Value}(hd:C.unL d=some L) (hr:Rob C e w d f):∃ v,f=[v]/\ccR C e w L v/\∀ k o n c,v=.slice (some ⟨k,o,none⟩) n c->0<L.n->∀ b,e.ρ b≠some k:=by
 obtain⟨v,rfl,h⟩:=hC.unlist _ _ _ _ hd hr.out;have hno:∀ k o n c,v=.slice (some ⟨k,o,none⟩) n c->0<L.n->∀ b,e.ρ b≠some k:=by
  rintro k o n c rfl hn b hb;have hlt:=hg.lt hb;have hk:jy e w (w.putObj k (.deferred none)):=⟨Nat.le_of_eq (by simp [World.putObj]),fun j _ hj _=>uQ (fun hjk=>hj b (by rw[hb,hjk]))⟩;obtain⟨v',h1,h2⟩:=hC.unlist _ _ _ _ hd (hr _ hk);injection h1 with h1;subst h1
  rcases h2 with⟨h2,_⟩|⟨k',o',c',arr,pre,vs,rest,h3,_,⟨_,h4⟩,_⟩
  ·omega
  ·injection h3 with h3;injection h3 with h3;injection h3 with h3
   subst h3;rw[zp hlt] at h4;cases h4
 have hno2:∀ k o n c,v=.slice (some ⟨k,o,none⟩) n c->0<L.n->k<w.heap.size->¬ e.ot k:=by
  rintro k o n c rfl hn hlt ht;have hk:jy e w (w.putObj k (.deferred none)):=⟨Nat.le_of_eq (by simp [World.putObj]),fun j _ _ hj=>uQ (fun hjk=>hj (by rw[hjk];exact ht))⟩;obtain⟨v',h1,h2⟩:=hC.unlist _ _ _ _ hd (hr _ hk);injection h1 with h1;subst h1
  rcases h2 with⟨h2,_⟩|⟨k',o',c',arr,pre,vs,rest,h3,_,⟨_,h4⟩,_⟩
  ·omega
  ·injection h3 with h3;injection h3 with h3;injection h3 with h3
   subst h3;rw[zp hlt] at h4;cases h4
 refine⟨v,rfl,?_,hno⟩;rcases h with h|⟨k,o,c,arr,pre,vs,rest,rfl,h2,h3,h4,h5,h6,_,h6',h7⟩
 ·exact .inl h
 ·refine .inr ⟨k,o,c,arr,pre,vs,rest,rfl,h2,h3,h4,h5,h6,h6',fun j hj w' hk=>?_⟩;obtain⟨_,h3⟩:=h3;obtain⟨v',q1,q2⟩:=hC.unlist _ _ _ _ hd (hr _ hk);injection q1 with q1;subst q1
  rcases q2 with⟨q2,_⟩|⟨k',o',c',arr',pre',vs',rest',q3,_,⟨_,q4⟩,q5,q6,q7,_,_,q8⟩
  ·omega
  ·injection q3 with q3;injection q3 with q3;injection q3 with q3 q3'
   subst q3;subst q3';have hkk:=hk.block k (Array.getElem?_eq_some_iff.1 h3).1 (hno k o L.n c rfl (by omega)) (hno2 k o L.n c rfl (by omega) (Array.getElem?_eq_some_iff.1 h3).1);rw[q4,h3] at hkk;injection hkk with hkk;injection hkk with hkk
   subst hkk;have e1:pre++(vs++rest)=pre'++(vs'++rest'):=by rw[← uU,← uU,← h4,← q5]
   have e2:=List.append_inj e1 (by omega);have e3:=List.append_inj e2.2 (by omega);rw[e3.1];exact q8 j hj
theorem gl_rob {b ty z n:Nat}{g:Nat->List (Grp D)}{v:Value}(h:cjg C e w b (.gl ty z n g)) (hv:e.φ b=some v) (lo:Nat):ccR C e w ⟨lo,ty,z,n,g⟩ v:=by
 obtain⟨v',h1,h2⟩:=h;rw[hv] at h1;injection h1 with h1;subst h1
 refine h2.imp (fun⟨h3,h4⟩=>⟨h3,none,h4⟩) ?_;rintro⟨k,c,arr,vs,rest,h3,h4,h5,h6,h7,h8,h9,h10,h12,h11⟩;exact⟨k,0,c,arr,[],vs,rest,h5,h10,⟨_,h6⟩,h7,rfl,h8,h12,h11⟩
theorem Ka (hC:C.Ok) (hV:cN e a V) (hM:cA C e w M) (hg:Kv C e w) {x:Operand}{s:Src D}(h:UZ C.toStat M (CV V x)=some s) :
 ccR C e w s.L (a.eval x)/\(match s.own with
  |true=>e.φ s.id=some (a.eval x)/\M s.id=some (.gl s.L.ty s.L.z s.L.n s.L.g)
  |false=>e.ν s.id=some [a.eval x]/\∃ d,M s.id=some (.cls d)/\C.unL d=some s.L):=by
 unfold UZ at h;split at h
 ·rename_i b hx;have hv:e.φ b=some (a.eval x):=cM hV hx;split at h
  ·rename_i ty z n g hb;injection h with h;subst h
   exact⟨gl_rob (hM _ _ hb) hv _,hv,hb⟩
  ·cases h
 ·rename_i t hx;obtain⟨l,h1,h2,h3⟩:=cM hV hx;split at h
  ·rename_i d hd;split at h
   ·rename_i L hL;split at h
    ·rename_i hz;injection h with h;subst h
     obtain⟨f,h4,h5⟩:=hM _ _ hd;rw[h1] at h4;injection h4 with h4;subst h4
     obtain⟨v,rfl,h6,_⟩:=ZB hC hg hL h5;have hv:a.eval x=v:=by simpa using h2.symm
     rw[← hv] at h6 h1;exact⟨h6,h1,d,hd,hL⟩
    ·cases h
   ·cases h
  ·cases h
 ·cases h
end
structure Epo (D:Type) where
 own:Bool
 id:Nat
 i:Nat
 o:Nat
 L:Lt D
def epOf (S:Stat D) (M:ct D):Option AV->Option (Epo D)
 |some (.val (.one (.fn b)))=>match M b with
  |some (.ep l i z o)=>match M l with
   |some (.gl ty z' n g)=>match Nat.beq z z' with
    |true=>some ⟨true,l,i,o,⟨S.lo,ty,z',n,g⟩⟩
    |false=>none
   |_=>none
  |some (.cp s i z o)=>match M s with
   |some (.cls d)=>match S.unL d with
    |some L=>match Nat.beq z L.z with
     |true=>some ⟨false,s,i,o,L⟩
     |false=>none
    |none=>none
   |_=>none
  |_=>none
 |_=>none
section
variable {C:Ctx D}{e:Env}{w w':World}{a:Act}{V:cR}{M:ct D}{n0:Nat}
theorem cgf (hC:C.Ok) (hV:cN e a V) (hM:cA C e w M) (hg:Kv C e w) {x:Operand}{p:Epo D}(h:epOf C.toStat M (CV V x)=some p) (hi:p.i<p.L.n) :
 ∃ k o arr pre vs rest,a.eval x=.pointer (some ⟨k,o+(p.i*p.L.z+p.o),none⟩)/\(∃ fr,w.heap[k]?=some (.cells arr p.L.ty fr))/\arr.toList=pre++vs++rest/\pre.length=o/\vs.length=p.L.n*p.L.z/\(∀ j,j<p.L.n->Cd C e w (p.L.g j) ((vs.drop (j*p.L.z)).take p.L.z))/\(∀ v∈vs,v.oneCell'=true)/\
  (p.own=true->M p.id=some (.gl p.L.ty p.L.z p.L.n p.L.g)/\e.ρ p.id=some k/\e.al p.id=true/\o=0/\pre=[]/\∃ c,e.φ p.id=some (.slice (some ⟨k,0,none⟩) p.L.n c)/\arr.size=c*p.L.z/\p.L.n<=c/\w.heap[k]?=some (.cells arr p.L.ty (0,0))):=by
 unfold epOf at h;split at h
 rotate_left
 ·cases h
 rename_i b hx;have hv:e.φ b=some (a.eval x):=cM hV hx;split at h
 ·rename_i l i z o hb;obtain⟨k,h1,h2⟩:=hM _ _ hb;rw[hv] at h2;injection h2 with h2
  split at h
  ·rename_i ty z' n g hl;split at h
   ·rename_i hz;have hz:=cn hz;injection h with h;subst h
    obtain⟨v,h3,h4⟩:=hM _ _ hl;rcases h4 with⟨h4,_⟩|⟨k',c,arr,vs,rest,h5,h6,h7,h8,h9,h10,h11,h12,h14,h13⟩
    ·exact absurd hi (by simp only;omega)
    ·rw[h1] at h5;injection h5 with h5;subst h5
     exact⟨k,0,arr,[],vs,rest,by rw[h2,hz,jb],⟨_,h8⟩,h9,rfl,h10,h13,h14,fun _=>⟨hl,h1,h6,rfl,rfl,c,by rw[h3,h7],h11,h12,h8⟩⟩
   ·cases h
  ·cases h
 ·rename_i s i z o hb;obtain⟨k,p',n,c,h1,h2⟩:=hM _ _ hb;rw[hv] at h2;injection h2 with h2
  split at h
  ·rename_i d hd;split at h
   ·rename_i L hL;split at h
    ·rename_i hz;have hz:=cn hz;injection h with h;subst h
     obtain⟨f,h3,h4⟩:=hM _ _ hd;rw[h1] at h3;injection h3 with h3;subst h3
     obtain⟨v,h5,h6,_⟩:=ZB hC hg hL h4;injection h5 with h5;subst h5
     rcases h6 with⟨h6,h7⟩|⟨k',o',c',arr,pre,vs,rest,h7,h8,h9,h10,h11,h12,h14,h13⟩
     ·have hi':i<L.n:=hi;omega
     ·injection h7 with h7;injection h7 with h7;injection h7 with h7 h7'
      subst h7;subst h7';exact⟨k,p',arr,pre,vs,rest,by rw[h2,hz],h9,h10,h11,h12,h13,h14,fun h=>by cases h⟩
    ·cases h
   ·cases h
  ·cases h
 ·cases h
theorem Jx (hg:Kv C e w) (hf:jC n0 (n0+1) e) (hb:Below w.heap.size w w') {k:Nat}(hkk:w.heap.size<=k) {o:Obj}(hk:w'.heap[k]?=some o) (hok:kE C o) {v:Value}{ob:kU D}(hob:∀ e':Env,Adv e w e' w'->e'.ρ n0=some k->e'.al n0=true->e'.φ n0=some v->cjg C e' w' n0 ob) :
 ∃ e',jM C e w n0 (n0+1) [(n0,ob)] e' w'/\e'.φ n0=some v/\e'.ρ n0=some k:=by
 have hn:=(hf n0 (cb _) (ux _)).1;have hnφ:=(hf n0 (cb _) (ux _)).2.2
 let e':Env:={ e with ρ:=fun b=>if b=n0 then some k else e.ρ b,al:=fun b=>if b=n0 then true else e.al b,φ:=fun b=>if b=n0 then some v else e.φ b }
 have hid:e'.ρ n0=some k:=by simp [e']
 have hiφ:e'.φ n0=some v:=by simp [e']
 have hne:∀ b k,e.ρ b=some k->b≠n0:=fun b k h e0=>by rw[e0,hn] at h;cases h
 have hold:∀ b j,e'.ρ b=some j->(b≠n0/\e.ρ b=some j)\/(b=n0/\j=k):=by
  intro b j hb;by_cases hbi:b=n0
  ·right;refine⟨hbi,?_⟩;rw[hbi,hid] at hb;injection hb with hb
   exact hb.symm
  ·left;have:(if b=n0 then some k else e.ρ b)=some j:=hb;rw[cf hbi] at this;exact⟨hbi,this⟩
 have hx:Ext e e':=⟨fun b k h=>by
  show (if b=n0 then _ else _)=_;rw[cf (hne b k h),h],fun _ _ _=>rfl,fun _ _ h=>h,fun b k h=>by
  show (if b=n0 then _ else _)=_;rw[cf (fun e0=>by rw[e0,hnφ] at h;cases h),h],rfl⟩
 have hadv:Adv e w e' w':=⟨hx,hb.size,fun j hk' hn'=>⟨fun b hb'=>by
  rcases hold b j hb' with h|h
  ·exact hn' b h.2
  ·omega,hb.block j hk'⟩⟩
 have hal:∀ b,b≠n0->e'.al b=e.al b:=fun b h=>by show (if b=n0 then _ else _)=_;rw[cf h]
 have hg1:=hg.later hb;refine⟨e',⟨jQ _,hadv,⟨fun b k h=>(hold b k h).imp (fun h=>h.2) (fun h=>by omega),fun _ _ h=>.inl h,fun b k h=>?_⟩,⟨hg1.below,?_,?_,hg.fr.adv hadv⟩,?_,?_⟩,hiφ,hid⟩
 ·by_cases hb:b=n0
  ·right;omega
  ·left;have h:(if b=n0 then some v else e.φ b)=some k:=h
   rwa [cf hb] at h
 ·intro b b' j h1 h2 h3 h4;rcases hold b j h3 with⟨q1,q2⟩|⟨q1,q2⟩<;>rcases hold b' j h4 with⟨q3,q4⟩|⟨q3,q4⟩
  ·exact hg.inj b b' j (by rw[← hal b q1];exact h1) (by rw[← hal b' q3];exact h2) q2 q4
  ·have:=hg.lt q2;omega
  ·have:=hg.lt q4;omega
  ·rw[q1,q3]
 ·intro b j h;rcases hold b j h with⟨q1,q2⟩|⟨q1,q2⟩
  ·exact hg1.own b j q2
  ·rw[q2];exact⟨cB hg.below.size hkk,_,hk,hok⟩
 ·intro b o ho;simp only[cP,cC] at ho;split at ho
  ·rename_i hbe;injection ho with ho;subst ho
   obtain rfl:n0=b:=cn hbe;exact hob e' hadv hid (by simp [e']) hiφ
  ·cases ho
 ·intro b o ho _;refine ho.adv hadv (fun k hk ha=>?_);have:=hne b k hk;exact⟨by rw[hal b this];exact ha,hb.block k (hg.lt hk)⟩
theorem zI (hg:Kv C e w) (hf:jC n0 (n0+1) e) (hb:Below w.heap.size w w') {k:Nat}(hkk:w.heap.size<=k) {o:Obj}(hk:w'.heap[k]?=some o) (hok:kE C o) {v:Value}{ob:kU D}(hob:∀ e':Env,Adv e w e' w'->e'.ρ n0=some k->e'.al n0=true->e'.φ n0=some v->cjg C e' w' n0 ob) :
 ∃ e',jM C e w n0 (n0+1) [(n0,ob)] e' w'/\e'.φ n0=some v:=by
 obtain⟨e',h1,h2,_⟩:=Jx hg hf hb hkk hk hok hob;exact⟨e',h1,h2⟩
theorem cey (hg:Kv C e w) (hf:jC n0 (n0+1) e) {b k:Nat}(hb:e.ρ b=some k) (ha:e.al b=true) (ho:ju k w w') {o:Obj}(hk':w'.heap[k]?=some o) (hok:kE C o) {v:Value}{ob:kU D}(hob:∀ e':Env,Adv e w e' w'->e'.ρ n0=some k->e'.al n0=true->e'.φ n0=some v->cjg C e' w' n0 ob) :
 ∃ e',jM C e w n0 (n0+1) [(n0,ob),(b,.dead)] e' w'/\e'.φ n0=some v:=by
 exact ZK hg hf hb ha (by rw[ho.size];exact cb _) (hg.below.trans (ho.below (hg.own b k hb).1)) (fun i _ h=>ho.block i h) hk' hok (fun e' h1 h2 h3 h4 _=>hob e' h1 h2 h3 h4)
end
end Pe
end Go.Proofs.YtcgiaclelnmhbabGreatDoor
