/- Part 24. -/
import Derived.Test.YtdopipkmcnkdjaaGreatDoorE23
set_option linter.all false

namespace Go.Proofs.YtdopipkmcnkdjaaGreatDoor
open Go Go.RowKit Go.Proofs Lim
namespace Sym
section
variable {csz:List Nat}{numc:List Bool}{okT:List Nat}{nt:Nat}{cl:List Cl}{w0:World}{p1 p2 p3:Pat}{res:jH}{ds es:List Nat}{s t b:Bool}
theorem e_sum (h1:PD csz numc okT nt cl w0 p1 ds) (h2:PD csz numc okT nt cl w0 p2 es) (hds:Dig ds) (hes:Dig es) (hl1:ds.length<100000000) (hl2:es.length<100000000) (h3:RD csz numc okT nt cl w0 res (digs (nat ds+nat es))):V csz numc okT nt cl w0 (.call 135) [p1,p2] res:=by
 refine⟨cY Tryz.func135 (by kernel_rfl) rfl,fun w vs hb hvs=>?_⟩;obtain⟨v1,_,rfl,h4,v2,_,rfl,h5,rfl⟩:=hvs;refine(sum_ok v1 v2 ds es w (h1 _ _ hb h4) (h2 _ _ hb h5) hds hes hl1 hl2).mono ?_;rintro e w' ⟨v,rfl,hv,hb'⟩;exact⟨_,rfl,h3 w' v hv,hb'⟩
theorem e_eqb (h1:PV csz numc okT nt cl w0 p1 (.bool s)) (h2:PV csz numc okT nt cl w0 p2 (.bool t)) (hb:(s == t)=b):V csz numc okT nt cl w0 (.bin .eql 4) [p1,p2] (.val (vp (.bool b))):=by
 intro w ρ oo xs ho hbw hvs;obtain⟨a,c,u,hop,rfl⟩:=UQ ho;obtain⟨v1,_,e1,h4,v2,_,e2,h5,e3⟩:=hvs;obtain rfl:=h1 _ _ h4;obtain rfl:=h2 _ _ h5;subst e2;simp only[jR,kW,yG] at e1;obtain⟨ea,eb,_⟩:=e1;subst hb;refine⟨_,w,?_,vp_r _ _ _,cw _ _⟩;show (execOp ρ oo).run Tryz.prog w=_;have hg:(eqGuard .eql 4 a c (.bool s) (.bool t)).run Tryz.prog w=.ok () w:=rfl;have hr:(Go.binOp .eql 4 (.bool s) (.bool t)).run Tryz.prog w=.ok (.bool (s == t)) w:=by
  cases s<;>cases t<;>exact KR (by kernel_rfl) w
 simp only[execOp,hop,ea,eb,jc,hg,hr,jC];rfl
end
abbrev cl_add (s t:Bool) (a b c d:Nat) (sg:Bool) (S:Nat):List Cl:=[clV (.bool s),clD (digs a),clD (digs b),clV (.bool t),clD (digs c),clD (digs d),clD (digs (a*d)),clD (digs (c*b)),clD (digs (b*d)),clD (digs S),clV (.bool (sg&&decide (S≠0))),clD (digs (S/Nat.gcd S (b*d))),clD (digs (b*d/Nat.gcd S (b*d))),clV (ii (Wb (a*d) (c*b)))]
noncomputable abbrev C_add (s t:Bool) (a b c d:Nat) (sg:Bool) (S:Nat) (w:World):Ctx:=mkC [1,1,1,1,1,1,1,1,1,1,1,1,1,1] [true,false,false,true,false,false,false,false,false,false,true,false,false,true] [40] 53 (cl_add s t a b c d sg S) w
def t_add0 (e:Bool):List Ent:=[⟨.call 134,[op 1,op 5],.val (op 6)⟩,⟨.call 134,[op 4,op 2],.val (op 7)⟩,⟨.call 134,[op 2,op 5],.val (op 8)⟩,⟨.bin .eql 4,[op 0,op 3],.val (vp (.bool e))⟩,⟨.call 126,[op 6,op 7],.val (op 13)⟩]
def t_add1:List Ent:=[⟨.call 135,[op 6,op 7],.val (op 9)⟩,⟨.call 89,[op 0,op 9,op 8],.val (rp 10 11 12)⟩]
def t_add2:List Ent:=[⟨.bin .geq 3,[op 13,vp (ii 0)],.val (vp (.bool true))⟩,⟨.call 136,[op 6,op 7],.val (op 9)⟩,⟨.call 89,[op 0,op 9,op 8],.val (rp 10 11 12)⟩]
def t_add3:List Ent:=[⟨.bin .geq 3,[op 13,vp (ii 0)],.val (vp (.bool false))⟩,⟨.call 136,[op 7,op 6],.val (op 9)⟩,⟨.call 89,[op 3,op 9,op 8],.val (rp 10 11 12)⟩]
def zu (s t:Bool) (m n:Nat):Bool×Nat:=if s=t then (s,m+n) else if n<=m then (s,m-n) else (t,n-m)
theorem ckW {a b:Nat}:Wb a b>=0↔b<=a:=by unfold Wb;split<;>(try split)<;>omega
theorem add_ok (s t:Bool) (x y:Value) (a b c d:Nat) (w:World) (hx:Cf w x s a b) (hy:Cf w y t c d) (hb:0<b) (hd:0<d) (h1:(digs a).length<1000000) (h2:(digs b).length<1000000) (h3:(digs c).length<1000000) (h4:(digs d).length<1000000) (h5:(digs (a*d)).length<10000000) (h6:(digs (b*d)).length<10000000) (h7:(digs (c*b)).length<10000000) (h8:(digs (a*d+c*b)).length<10000000)
 {sg:Bool} {S:Nat} (hS:zu s t (a*d) (c*b)=(sg,S)) :
 Calls Tryz.prog 100 #[x,y] w (fun e w'=>∃ v,e=.returned v/\Cf w' v (sg&&decide (S≠0)) (S/Nat.gcd S (b*d)) (b*d/Nat.gcd S (b*d))/\Below w.heap.size w w'):=by
 have hC:(C_add s t a b c d sg S w).Ok:=uw (cn (cfV _) (cn (jK yk _) (cn (jK yk _) (cn (cfV _) (cn (jK yk _) (cn (jK yk _) (cn (jK yk _) (cn (jK yk _) (cn (jK yk _) (cn (jK yk _) (cn (cfV _) (cn (jK yk _) (cn (jK yk _) (cn (kx _) kr)))))))))))))) rfl rfl;have hT0:∀ e,(s == t)=e->∀ t'∈t_add0 e,t'.Valid (C_add s t a b c d sg S w):=fun e he =>
  ce (JY (ds:=digs a) (es:=digs d) (pd rfl) (pd rfl) (jS _) (jS _) (by omega) (by omega) (rd (by rw[cW,cW];rfl))) (ce (JY (ds:=digs c) (es:=digs b) (pd rfl) (pd rfl) (jS _) (jS _) (by omega) (by omega) (rd (by rw[cW,cW];rfl))) (ce (JY (ds:=digs b) (es:=digs d) (pd rfl) (pd rfl) (jS _) (jS _) (by omega) (by omega) (rd (by rw[cW,cW];rfl)))
   (ce (e_eqb (pv rfl) (pv rfl) he) (ce (cgd (ds:=digs (a*d)) (es:=digs (c*b)) (pd rfl) (pd rfl) (jS _) (jS _) (by rw[cW,cW];exact rv rfl)) cj))))
 have app:∀ {l1 l2:List Ent},(∀ t'∈l1,t'.Valid (C_add s t a b c d sg S w))->(∀ t'∈l2,t'.Valid (C_add s t a b c d sg S w))->∀ t'∈l1++l2,t'.Valid (C_add s t a b c d sg S w):=fun q1 q2 t' ht=>(List.mem_append.1 ht).elim (q1 t') (q2 t');have hv:jb (C_add s t a b c d sg S w) w [rp 0 1 2,rp 3 4 5] [x,y]:=⟨_,_,rfl,(clx rfl rfl rfl).2 hx,_,_,rfl,(clx rfl rfl rfl).2 hy,rfl⟩;have hbd:0<b*d:=Co hb hd;have hSl:S<=a*d+c*b:=by
  unfold zu at hS;split at hS
  ·injection hS with _ h;omega
  ·split at hS<;>(injection hS with _ h;omega)
 have hSl:(digs S).length<10000000:=jP (GI hSl) h8;have fin:∀ e w',(∃ v,e=Ending.returned v/\jH.is (C_add s t a b c d sg S w) w' (.val (rp 10 11 12)) v/\Below w.heap.size w w')->∃ v,e=.returned v/\Cf w' v (sg&&decide (S≠0)) (S/Nat.gcd S (b*d)) (b*d/Nat.gcd S (b*d))/\Below w.heap.size w w':=by
  rintro e w' ⟨v,rfl,hv,hb'⟩;exact⟨v,rfl,(clx rfl rfl rfl).1 hv,hb'⟩
 unfold zu at hS;by_cases hst:s=t
 ·rw[co hst] at hS;injection hS with g1 g2
  subst g1 g2;have hT:∀ t'∈t_add1,t'.Valid (C_add s t a b c d s (a*d+c*b) w):=ce (e_sum (ds:=digs (a*d)) (es:=digs (c*b)) (pd rfl) (pd rfl) (jS _) (jS _) (by omega) (by omega) (rd (by rw[cW,cW];rfl))) (ce (ciE (m:=a*d+c*b) (k:=b*d) (pv rfl) (pd rfl) (pd rfl) hbd hSl h6 rfl rfl rfl) cj);exact(kM hC (app (hT0 true (by simp [hst])) hT) 100 Tryz.f100 [rp 0 1 2,rp 3 4 5] (.val (rp 10 11 12)) 90 Tryz.func100 rfl rfl rfl (by kernel_rfl) [x,y] hv).mono fin
 ·rw[cg hst] at hS;by_cases hle:c*b<=a*d
  ·rw[co hle] at hS;injection hS with g1 g2
   subst g1 g2;have hT:∀ t'∈t_add2,t'.Valid (C_add s t a b c d s (a*d-c*b) w):=ce (ceZ (pv rfl) pvl (cF (ckW.2 hle))) (ce (ciK (ds:=digs (a*d)) (es:=digs (c*b)) (pd rfl) (pd rfl) (jS _) (jS _) (by omega) (GI hle) (by rw[cW,cW];exact hle) (rd (by rw[cW,cW];rfl))) (ce (ciE (m:=a*d-c*b) (k:=b*d) (pv rfl) (pd rfl) (pd rfl) hbd hSl h6 rfl rfl rfl) cj));exact(kM hC (app (hT0 false (by simp [hst])) hT) 100 Tryz.f100 [rp 0 1 2,rp 3 4 5] (.val (rp 10 11 12)) 90 Tryz.func100 rfl rfl rfl (by kernel_rfl) [x,y] hv).mono fin
  ·rw[cg hle] at hS;injection hS with g1 g2
   subst g1 g2;have hT:∀ t'∈t_add3,t'.Valid (C_add s t a b c d t (c*b-a*d) w):=ce (ceZ (pv rfl) pvl (cK (fun h=>hle (ckW.1 h)))) (ce (ciK (ds:=digs (c*b)) (es:=digs (a*d)) (pd rfl) (pd rfl) (jS _) (jS _) (by omega) (GI (by omega)) (by rw[cW,cW];omega) (rd (by rw[cW,cW];rfl))) (ce (ciE (m:=c*b-a*d) (k:=b*d) (pv rfl) (pd rfl) (pd rfl) hbd hSl h6 rfl rfl rfl) cj));exact(kM hC (app (hT0 false (by simp [hst])) hT) 100 Tryz.f100 [rp 0 1 2,rp 3 4 5] (.val (rp 10 11 12)) 90 Tryz.func100 rfl rfl rfl (by kernel_rfl) [x,y] hv).mono fin
end Sym
namespace Sym
abbrev cl_neg (a b:Nat):List Cl:=[clD (digs a),clD (digs b),clV (ii ((digs a).length:Int))]
noncomputable abbrev C_neg (nt a b:Nat) (w:World):Ctx:=mkC [1,1,1] [false,false,true] [40] nt (cl_neg a b) w
theorem neg_C (nt a b:Nat) (w:World):(C_neg nt a b w).Ok:=uw (cn (jK yk _) (cn (jK yk _) (cn (kx _) kr))) rfl rfl
def t_neg (b:Bool):List Ent:=[⟨.blt .len [38] 3,[op 0],.val (op 2)⟩,⟨.bin .gtr 3,[op 2,vp (ii 0)],.val (vp (.bool b))⟩]
theorem ckf {nt a b:Nat}{w0 w:World}{v:Value}{s:Bool}:(Pat.agg [.lit (.bool s),.cls 0 1,.cls 1 1]).is (C_neg nt a b w0) w v↔Cf w v s a b:=by
 constructor
 ·rintro⟨vs,⟨xs,ys,rfl,rfl,xs2,ys2,rfl,⟨f,hE,rfl⟩,xs3,ys3,rfl,⟨g,hE',rfl⟩,h5⟩,rfl⟩;rw[show ys3=[] from h5];exact⟨f 0,g 0,by simp [yW],hE,hE'⟩
 ·rintro⟨x,y,rfl,ha,hb⟩;exact⟨[.bool s,x,y],⟨[.bool s],[x,y],rfl,rfl,[x],[y],rfl,⟨fun _=>x,ha,rfl⟩,[y],[],rfl,⟨fun _=>y,hb,rfl⟩,rfl⟩,rfl⟩
theorem neg_ok (s:Bool) (x:Value) (a b:Nat) (w:World) (hx:Cf w x s a b):Calls Tryz.prog 101 #[x] w (fun e w'=>∃ v,e=.returned v/\Cf w' v (!s&&decide (a≠0)) a b/\Below w.heap.size w w'):=by
 have hT:∀ e,decide (a≠0)=e->∀ t∈t_neg e,t.Valid (C_neg 17 a b w):=fun e he=>ce (yY jU (pd rfl) (rv rfl)) (ce (Ef (pv rfl) pvl (by rw[← he];congr 1;apply propext;rw[← yO];constructor<;>intro h<;>omega)) cj);have hv:∀ s,Cf w x s a b->jb (C_neg 17 a b w) w [.agg [.lit (.bool s),.cls 0 1,.cls 1 1]] [x]:=fun s h=>⟨_,_,rfl,ckf.2 h,rfl⟩;cases s with
 |true =>
  refine(kM (neg_C 17 a b w) (hT _ rfl) 101 Tryz.f101 [.agg [.lit (.bool true),.cls 0 1,.cls 1 1]] (.val (.agg [.lit (.bool false),.cls 0 1,.cls 1 1])) 60 Tryz.func101 rfl rfl rfl (by kernel_rfl) [x] (hv _ hx)).mono ?_;rintro e w' ⟨v,rfl,hv,hb'⟩;exact⟨v,rfl,ckf.1 hv,hb'⟩
 |false =>
  by_cases h0:a=0
  ·refine(kM (neg_C 17 a b w) (hT false (by simp [h0])) 101 Tryz.f101 [.agg [.lit (.bool false),.cls 0 1,.cls 1 1]] (.val (.agg [.lit (.bool false),.cls 0 1,.cls 1 1])) 60 Tryz.func101 rfl rfl rfl (by kernel_rfl) [x] (hv _ hx)).mono ?_;rintro e w' ⟨v,rfl,hv,hb'⟩;refine⟨v,rfl,?_,hb'⟩;rw[show (!false&&decide (a≠0))=false by simp [h0]];exact ckf.1 hv
  ·refine(kM (neg_C 17 a b w) (hT true (by simp [h0])) 101 Tryz.f101 [.agg [.lit (.bool false),.cls 0 1,.cls 1 1]] (.val (.agg [.lit (.bool true),.cls 0 1,.cls 1 1])) 60 Tryz.func101 rfl rfl rfl (by kernel_rfl) [x] (hv _ hx)).mono ?_;rintro e w' ⟨v,rfl,hv,hb'⟩;refine⟨v,rfl,?_,hb'⟩;rw[show (!false&&decide (a≠0))=true by simp [h0]];exact ckf.1 hv
end Sym
namespace Sym
def RQ (w:World) (v:Value) (r:Rat):Prop:=Cf w v (decide (r.num<0)) r.num.natAbs r.den
theorem Cf.below {w w':World}{v:Value}{s:Bool}{m k B:Nat}(h:Cf w v s m k) (hb:Below B w w') (hB:w.heap.size<=B):Cf w' v s m k:=by
 obtain⟨a,b,e,h1,h2⟩:=h;exact⟨a,b,e,h1.below hb hB,h2.below hb hB⟩
theorem RQ.below {w w':World}{v:Value}{r:Rat}{B:Nat}(h:RQ w v r) (hb:Below B w w') (hB:w.heap.size<=B):RQ w' v r:=Cf.below h hb hB
theorem cht (neg:Bool) {m k:Nat}(hk:0<k):(mkRat (sgn neg m) k).num.natAbs=m/Nat.gcd m k/\(mkRat (sgn neg m) k).den=k/Nat.gcd m k/\decide ((mkRat (sgn neg m) k).num<0)=(neg&&decide (m≠0)):=by
 have hk0:k≠0:=by omega
 rw[← Rat.normalize_eq_mkRat hk0,Rat.normalize_eq];have hg:(sgn neg m).natAbs.gcd k=Nat.gcd m k:=by rw[Gu]
 have hgp:0<Nat.gcd m k:=Cy m hk;obtain⟨c,hc⟩:=zp m k;have hcd:m/Nat.gcd m k=c:=by
  conv=>lhs;lhs;rw[hc]
  exact Nat.mul_div_cancel_left c hgp
 have hz:sgn neg m/((Nat.gcd m k:Nat):Int)=sgn neg c:=by
  have:sgn neg m=((Nat.gcd m k:Nat):Int)*sgn neg c:=by
   unfold sgn;split
   ·rw[Int.mul_neg,← uv,← hc]
   ·rw[← uv,← hc]
  rw[this,Int.mul_ediv_cancel_left _ (by omega)]
 have hm0:m=0↔c=0:=by
  constructor
  ·intro h;have:Nat.gcd m k*c=0:=by rw[← hc];exact h
   rcases Nat.mul_eq_zero.1 this with h|h
   ·omega
   ·exact h
  ·intro h;rw[hc,h,Ck]
 simp only[hg,hz,Gu,hcd,cbJ];refine⟨trivial,trivial,?_⟩;have:decide (m≠0)=!decide (c=0):=by
  by_cases h:c=0
  ·simp [h,hm0.2 h]
  ·have h':m≠0:=fun e=>h (hm0.1 e);simp [h,h']
 rw[this]
theorem Cf.rq {w:World}{v:Value}{neg:Bool}{m k:Nat}{r:Rat}(hk:0<k) (h:Cf w v (neg&&decide (m≠0)) (m/Nat.gcd m k) (k/Nat.gcd m k)) (hr:r=mkRat (sgn neg m) k):RQ w v r:=by
 obtain⟨h1,h2,h3⟩:=cht neg (m:=m) hk;subst hr;show Cf w v _ _ _;rw[h1,h2,h3];exact h
def RNew (w:World) (r:Rat) (e:Ending) (w':World):Prop:=∃ v,e=.returned v/\RQ w' v r/\Below w.heap.size w w'
theorem B_le5:B<=10000^5:=by decide
theorem ze {n k:Nat}(h:n<B^k):(digs n).length<=5*k:=by
 refine digs_len _ _ (cI h ?_);rw[Nat.pow_mul];exact cbB B_le5 k
theorem GX {a b k j:Nat}(h1:a<B^k) (h2:b<B^j):a*b<B^(k+j):=by
 rw[kP];exact Nat.mul_lt_mul_of_lt_of_lt h1 h2
theorem cjT {a b k:Nat}(h1:a<B^k) (h2:b<B^k):a+b<B^(k+1):=by
 rw[ji];have:B^k*2<=B^k*B:=jz _ (by decide);omega
end Sym
namespace Sym
theorem radd_q (x y:Value) (r s:Rat) (k:Nat) (w:World) (hx:RQ w x r) (hy:RQ w y s) (z1:Siz r k) (z2:Siz s k) (hk:k<=100000):Calls Tryz.prog 100 #[x,y] w (RNew w (r+s)):=by
 have l1:=ze z1.1;have l2:=ze z1.2;have l3:=ze z2.1;have l4:=ze z2.2;have l5:=ze (GX z1.1 z2.2);have l6:=ze (GX z1.2 z2.2);have l7:=ze (GX z2.1 z1.2);have l8:=ze (cjT (GX z1.1 z2.2) (GX z2.1 z1.2));have hd:=Co r.den_pos s.den_pos;refine(add_ok _ _ x y _ _ _ _ w hx hy r.den_pos s.den_pos (by omega) (by omega) (by omega) (by omega) (by omega) (by omega) (by omega) (by omega) (S:=(zu (decide (r.num<0)) (decide (s.num<0)) (r.num.natAbs*s.den) (s.num.natAbs*r.den)).2) (sg:=(zu (decide (r.num<0)) (decide (s.num<0)) (r.num.natAbs*s.den) (s.num.natAbs*r.den)).1) rfl).mono ?_;rintro e w' ⟨v,rfl,hv,hb⟩;refine⟨v,rfl,Cf.rq hd hv ?_,hb⟩;have key:∀ (a b:Bool) (x y:Nat),sgn (zu a b x y).1 (zu a b x y).2=sgn a x+sgn b y:=by
  intro a b x y;unfold zu sgn;cases a<;>cases b<;>simp<;>(try split)<;>(try simp)<;>omega
 have sm:∀ (a:Bool) (x y:Nat),sgn a (x*y)=sgn a x*(y:Int):=by
  intro a x y;unfold sgn;split<;>simp [uv,Int.neg_mul]
 rw[key,sm,sm,Un,Un,Rat.add_def']
theorem rneg_q (x:Value) (r:Rat) (w:World) (hx:RQ w x r):Calls Tryz.prog 101 #[x] w (RNew w (-r)):=by
 refine(neg_ok _ x _ _ w hx).mono ?_;rintro e w' ⟨v,rfl,hv,hb⟩;refine⟨v,rfl,?_,hb⟩;show Cf w' v _ _ _;rw[Rat.neg_num,Rat.neg_den,Int.natAbs_neg];have:decide (-r.num<0)=(!decide (r.num<0)&&decide (r.num.natAbs≠0)):=by
  by_cases h1:r.num<0
  ·simp [h1];omega
  ·by_cases h2:r.num=0
   ·simp [h2]
   ·have:0<r.num:=by omega
    simp [h1,h2,this]
 rw[this];exact hv
def clR (r:Rat) (k:Nat):Cl:=⟨[],3,true,fun w f=>RQ w (.agg #[f 0,f 1,f 2]) r/\Siz r k⟩
theorem Cf.cells {w:World}{f:Nat->Value}{s:Bool}{m k:Nat}(h:Cf w (.agg #[f 0,f 1,f 2]) s m k):f 0=.bool s/\Dg w (f 1) (digs m)/\Dg w (f 2) (digs k):=by
 obtain⟨a,b,e,h1,h2⟩:=h;injection e with e
 have e0:f 0=.bool s:=by have:=cQ (fun x=>x[0]?) e;simpa using this
 have e1:f 1=a:=by have:=cQ (fun x=>x[1]?) e;simpa using this
 have e2:f 2=b:=by have:=cQ (fun x=>x[2]?) e;simpa using this
 exact⟨e0,e1▸h1,e2▸h2⟩
theorem zW {okT:List Nat}{B:Nat}(ht:∀ t∈okT,t≠3) (r:Rat) (k:Nat):(clR r k).Ok okT B:=by
 refine⟨fun w w' f hb h=>⟨h.1.below hb (cb _),h.2⟩,fun w w' R f cs t _ _ ho hm _ _ hb h=>⟨?_,h.2⟩,?_,?_⟩
 ·obtain⟨e0,e1,e2⟩:=Cf.cells h.1;exact⟨f 1,f 2,by rw[e0],Dg.only ho (ht t hm) e1 hb,Dg.only ho (ht t hm) e2 hb⟩
 ·intro w f _ h;obtain⟨e0,_,_⟩:=Cf.cells h.1;rw[e0];rfl
 ·intro w f j h hj;obtain⟨e0,e1,e2⟩:=Cf.cells h.1;have hj:j<3:=hj
  match j,hj with
  |0,_=>rw[e0];rfl
  |1,_=>exact e1.one
  |2,_=>exact e2.one
def rq (c:Nat):Pat:=.agg [.cls c 3]
def cdI (n k:Nat):Bool:=Nat.ble n k&&Nat.ble k 100000
theorem WQ {n k:Nat}(h:cdI n k=true):n<=k/\k<=100000:=by
 simp only[cdI,EL] at h;exact⟨jo h.1,jo h.2⟩
section
variable {csz:List Nat}{numc:List Bool}{okT:List Nat}{nt:Nat}{cl:List Cl}{w0:World}{w:World}{v:Value}{p1 p2 p3 p4:Pat}{res:jH}{c d c1 c2 c3 c4 c5 c6:Nat}{r s t r1 r2 r3 r4:Rat}{k k1 k2 k3 k4 k5 k6:Nat}
theorem yL (h:cl[c]?=some (clR r k)):(rq c).is (mkC csz numc okT nt cl w0) w v↔RQ w v r/\Siz r k:=by
 constructor
 ·rintro⟨vs,⟨xs,ys,rfl,⟨f,hE,rfl⟩,hy⟩,rfl⟩;rw[show ys=[] from hy];simp only[mkC,h] at hE;exact hE
 ·rintro⟨h1,h2⟩;obtain⟨a,b,rfl,g1,g2⟩:=h1;refine⟨[.bool (decide (r.num<0)),a,b],⟨_,[],(ug _).symm,⟨fun j=>[Value.bool (decide (r.num<0)),a,b].getD j undef,?_,rfl⟩,rfl⟩,rfl⟩;simp only[mkC,h];exact⟨⟨a,b,rfl,g1,g2⟩,h2⟩
def PR (csz:List Nat) (numc:List Bool) (okT:List Nat) (nt:Nat) (cl:List Cl) (w0:World) (p:Pat) (r:Rat) (k:Nat):Prop:=∀ w v,p.is (mkC csz numc okT nt cl w0) w v->RQ w v r/\Siz r k
theorem pr (h:cl[c]?=some (clR r k)):PR csz numc okT nt cl w0 (rq c) r k:=fun _ _ h1=>(yL h).1 h1
theorem ent_rr {f:Nat}(hE:Enters Tryz.prog f) (h1:PR csz numc okT nt cl w0 p1 r k1) (h2:cl[c2]?=some (clR t k2)) (hz:Siz r k1->Siz t k2)
 (hc:∀ W v,RQ W v r->Siz r k1->Calls Tryz.prog f #[v] W (RNew W t)):V csz numc okT nt cl w0 (.call f) [p1] (.val (rq c2)):=by
 refine⟨hE,fun w vs hb hvs=>?_⟩;obtain⟨v1,_,rfl,h4,rfl⟩:=hvs;have h4:=h1 _ _ h4;refine(hc w v1 h4.1 h4.2).mono ?_;rintro e w' ⟨v,rfl,hv,hb'⟩;exact⟨v,rfl,(yL h2).2 ⟨hv,hz h4.2⟩,hb'⟩
theorem cln {f:Nat}(hE:Enters Tryz.prog f) (h1:PR csz numc okT nt cl w0 p1 r k1) (h2:PR csz numc okT nt cl w0 p2 s k2) (h3:cl[c3]?=some (clR t k3)) (hz:Siz r k1->Siz s k2->Siz t k3)
 (hc:∀ W v1 v2,RQ W v1 r->Siz r k1->RQ W v2 s->Siz s k2->Calls Tryz.prog f #[v1,v2] W (RNew W t)):V csz numc okT nt cl w0 (.call f) [p1,p2] (.val (rq c3)):=by
 refine⟨hE,fun w vs hb hvs=>?_⟩;obtain⟨v1,_,rfl,h4,v2,_,rfl,h5,rfl⟩:=hvs;have h4:=h1 _ _ h4;have h5:=h2 _ _ h5;refine(hc w v1 v2 h4.1 h4.2 h5.1 h5.2).mono ?_;rintro e w' ⟨v,rfl,hv,hb'⟩;exact⟨v,rfl,(yL h3).2 ⟨hv,hz h4.2 h5.2⟩,hb'⟩
theorem ent_rrv {f:Nat}{x:Value}(hE:Enters Tryz.prog f) (h1:PR csz numc okT nt cl w0 p1 r k1) (h2:PR csz numc okT nt cl w0 p2 s k2)
 (hc:∀ W v1 v2,RQ W v1 r->Siz r k1->RQ W v2 s->Siz s k2->Calls Tryz.prog f #[v1,v2] W (Val W x)):V csz numc okT nt cl w0 (.call f) [p1,p2] (.val (vp x)):=by
 refine⟨hE,fun w vs hb hvs=>?_⟩;obtain⟨v1,_,rfl,h4,v2,_,rfl,h5,rfl⟩:=hvs;have h4:=h1 _ _ h4;have h5:=h2 _ _ h5;refine(hc w v1 v2 h4.1 h4.2 h5.1 h5.2).mono ?_;rintro e w' ⟨rfl,hb'⟩;exact⟨_,rfl,vp_r _ _ _,hb'⟩
theorem e_radd (h1:PR csz numc okT nt cl w0 p1 r k1) (h2:PR csz numc okT nt cl w0 p2 s k2) (h3:cl[c3]?=some (clR (r+s) k3)) (hk:cdI (k1+k2+1) k3=true):V csz numc okT nt cl w0 (.call 100) [p1,p2] (.val (rq c3)):=by
 have hk:=WQ hk;exact cln (cY Tryz.func100 (by kernel_rfl) rfl) h1 h2 h3 (fun z1 z2=>(z1.add z2).le (by omega)) (fun W v1 v2 q1 z1 q2 z2=>radd_q v1 v2 r s k3 W q1 q2 (z1.le (by omega)) (z2.le (by omega)) (by omega))
theorem e_rneg (h1:PR csz numc okT nt cl w0 p1 r k1) (h2:cl[c2]?=some (clR (-r) k2)) (hk:cdI k1 k2=true):V csz numc okT nt cl w0 (.call 101) [p1] (.val (rq c2)) :=
 ent_rr (cY Tryz.func101 (by kernel_rfl) rfl) h1 h2 (fun z=>z.neg.le (WQ hk).1) (fun W v q _=>rneg_q v r W q)
theorem hd_bsR {o : Oper} {t n : Nat} {xs : List Operand} (h : uA o = some (.bs t n, xs)) : ∃ parts, o.op = .buildSlice t n parts ∧ parts.toList.map (·.1) = List.range parts.toList.length ∧ xs = parts.toList.map (·.2) := by
  unfold uA at h
  split at h <;> first
    | (rename_i h0
       split at h
       · rename_i hd
         simp only [kJ, cr, Hd.bs.injEq] at h
         obtain ⟨⟨rfl, rfl⟩, rfl⟩ := h
         exact ⟨_, h0, jh hd, rfl⟩
       · simp at h)
    | (split at h <;> simp at h)
    | simp at h
theorem ckF {x:Nat}(h1:PV csz numc okT nt cl w0 p1 (ii (x:Int))) (h3:RD csz numc okT nt cl w0 res [x]):V csz numc okT nt cl w0 (.bs 38 1) [p1] res:=by
 intro w ρ oo xs ho hb hvs;obtain⟨parts,hop,hidx,rfl⟩:=hd_bsR ho;obtain⟨v1,_,e1,h4,e2⟩:=hvs;obtain rfl:=h1 _ _ h4;subst e2;obtain⟨y,hp,hy⟩:∃ y,parts.toList=[(0,y)]/\ρ y=ii (x:Int):=by
  cases hl:parts.toList with
  |nil=>rw[hl] at e1;simp at e1
  |cons a l =>
   cases l with
   |nil =>
    rw[hl] at e1 hidx;obtain⟨i,y⟩:=a;simp [yW] at e1 hidx;exact⟨y,by rw[hidx],e1⟩
   |cons b l=>rw[hl] at e1;simp at e1
 have hu:Tryz.prog.underlying 38=some (.slice 3):=by kernel_rfl
 obtain⟨inf,hinf,hz,hs,_⟩:=ccb;have hf:Instr.fill (fun j=>some (j*inf.size,inf.size)) ((Array.range (1*inf.size)).map ((ii 0).cells[·%(ii 0).cells.size]!)) (parts.map fun(j,x)=>(j,ρ x)).toList=some #[ii (x:Int)]:=by
  have:=Great.fill_whole (s:=1) (by decide) [ii (x:Int)] ((Array.range (1*1)).map ((ii 0).cells[·%(ii 0).cells.size]!)) (fun v hv=>by
   have:v=ii (x:Int):=by simpa using hv
   subst this;rfl) (by simp)
  rw[YK,hp,hs];simp only[jR,kW,hy];exact this
 have hr:=run_buildSlice (P:=Tryz.prog) w 38 3 1 (parts.map fun(j,x)=>(j,ρ x)) _ inf (ii 0) hu hinf hz (by rw[hs];omega) (by rw[hs];omega) hf;refine⟨.slice (some ⟨w.heap.size,0,none⟩) 1 1,w.alloc (.cells #[ii (x:Int)] 3),?_,h3 _ _ ⟨some ⟨w.heap.size,0,none⟩,1,rfl,cb _,by decide,fun _=>⟨_,0,rfl,⟨_,_,Gh w _⟩,fun i hi=>?_⟩⟩,(cw _ _).alloc (cb _) _⟩
 ·show (execOp ρ oo).run Tryz.prog w=_;simp only[execOp,hop,jc,hr,jC];rfl
 ·have hi:i<1:=hi;obtain rfl:i=0:=by omega
  simp only[World.cell?,Gh];rfl
theorem e_min {ats:List Nat}{t:Nat}{x y:Int}(h1:PV csz numc okT nt cl w0 p1 (ii x)) (h2:PV csz numc okT nt cl w0 p2 (ii y)) (h3:RV csz numc okT nt cl w0 res (ii (if y<x then y else x))):V csz numc okT nt cl w0 (.blt .min ats t) [p1,p2] res:=by
 intro w ρ oo xs ho hb hvs;obtain⟨c,hop,hc,hat,hty,rfl⟩:=cgv ho;obtain⟨v1,_,e1,h4,v2,_,e2,h5,e3⟩:=hvs;obtain rfl:=h1 _ _ h4;obtain rfl:=h2 _ _ h5;subst e2;subst e3;refine⟨_,w,?_,h3 w,cw _ _⟩;have he:c.args.map ρ=#[ii x,ii y]:=by
  apply CO;simpa using e1
 show (execOp ρ oo).run Tryz.prog w=_;simp only[execOp,hop,resolve,hc,he,jc,zk,jC,invoke,builtin,run_min_int2]
end
end Sym
end Go.Proofs.YtdopipkmcnkdjaaGreatDoor
