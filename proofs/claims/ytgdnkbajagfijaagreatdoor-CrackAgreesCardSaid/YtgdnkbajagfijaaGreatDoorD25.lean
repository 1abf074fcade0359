/- Part 25. -/
import Derived.Test.YtgdnkbajagfijaaGreatDoorD24
set_option linter.all false

namespace Go.Proofs.YtgdnkbajagfijaaGreatDoor
open Go Go.RowKit Go.Proofs Lim
theorem clM (r:Rat):sign r=if r<0 then -1 else if 0<r then 1 else 0:=by
 unfold sign;have h:r.num=0↔r=0:=Rat.num_eq_zero;have h2:0<=r.num↔0<=r:=Rat.num_nonneg;have h3:r.num<0↔r<0:=by rw[← Int.not_le,h2,Rat.not_le]
 by_cases e:r=0
 ·subst e;decide+kernel
 ·rw[cg (fun k=>e (h.1 k))];by_cases k:r<0
  ·rw[co (h3.2 k),co k]
  ·rw[cg (fun j=>k (h3.1 j)),cg k,co (by grind)]
namespace Sym
theorem WP {n k:Nat}(h1:n<=k) (h2:k<=100000):cdF n k=true:=by
 simp only[cdF,GK];exact⟨JA h1,JA h2⟩
theorem rsub_q (x y:Value) (r s:Rat) (k:Nat) (w:World) (hx:RQ w x r) (hy:RQ w y s) (z1:Siz r k) (z2:Siz s k) (hk:k+k+1<=100000):Calls Tryz.prog 93 #[x,y] w (RNew w (r-s)):=by
 have hC:(mkC [3,3,3,3] [true,true,true,true] [40] 9 [clR r k,clR s k,clR (-s) k,clR (r+-s) (k+k+1)] w).Ok:=uG (cq (Ct ye _ _) (cq (Ct ye _ _) (cq (Ct ye _ _) (cq (Ct ye _ _) kx)))) rfl rfl;have hT:∀ t∈([⟨.call 134,[rq 1],.val (rq 2)⟩,⟨.call 133,[rq 0,rq 2],.val (rq 3)⟩]:List Ent),t.Valid (mkC [3,3,3,3] [true,true,true,true] [40] 9 [clR r k,clR s k,clR (-s) k,clR (r+-s) (k+k+1)] w) :=
  ce (e_rneg (pr rfl) rfl (WP (cb _) (by omega))) (ce (e_radd (pr rfl) (pr rfl) rfl (WP (cb _) hk)) cj)
 refine(kR hC hT 93 Tryz.f93 [rq 0,rq 1] (.val (rq 3)) 60 Tryz.func93 rfl rfl rfl (by kernel_rfl) [x,y] ⟨_,_,rfl,(yS rfl).2 ⟨hx,z1⟩,_,_,rfl,(yS rfl).2 ⟨hy,z2⟩,rfl⟩).mono ?_;rintro e w' ⟨v,rfl,hv,hb⟩;refine⟨v,rfl,?_,hb⟩;rw[Rat.sub_eq_add_neg];exact((yS rfl).1 hv).1
section
variable {csz:List Nat}{numc:List Bool}{okT:List Nat}{nt:Nat}{cl:List Cl}{w0:World}{w:World}{v:Value}{p1 p2 p3 p4:Pat}{res:jy}{c d c1 c2 c3 c4 c5 c6:Nat}{r s t r1 r2 r3 r4:Rat}{k k1 k2 k3 k4 k5 k6:Nat}
theorem e_rsub (h1:PR csz numc okT nt cl w0 p1 r k1) (h2:PR csz numc okT nt cl w0 p2 s k2) (h3:cl[c3]?=some (clR (r-s) k3)) (hk:cdF (k1+k2+1) k3=true) (hk':cdF k3 40000=true):V csz numc okT nt cl w0 (.call 93) [p1,p2] (.val (rq c3)):=by
 have hk:=Wk hk;have hk':=Wk hk';exact ckx (jg Tryz.func93 (by kernel_rfl) rfl) h1 h2 h3 (fun z1 z2=>(z1.sub z2).le (by omega)) (fun W v1 v2 q1 z1 q2 z2=>rsub_q v1 v2 r s k3 W q1 q2 (z1.le (by omega)) (z2.le (by omega)) (by omega))
end
def t_sign:List Ent:=[⟨.blt .len [38] 3,[op 0],.val (op 2)⟩,⟨.blt .min [3,3] 3,[op 2,vp (ii 1)],.val (op 3)⟩]
abbrev cl_sign (a b:Nat):List Cl:=[clD (digs a),clD (digs b),clV (ii ((digs a).length:Int)),clV (ii (if (1:Int)<((digs a).length:Int) then 1 else ((digs a).length:Int)))]
noncomputable abbrev C_sign (a b:Nat) (w:World):Ctx:=mkC [1,1,1,1] [false,false,true,true] [40] 9 (cl_sign a b) w
theorem rl_isS {a b:Nat}{w0 w:World}{v:Value}{s:Bool}:(Pat.agg [.lit (.bool s),.cls 0 1,.cls 1 1]).is (C_sign a b w0) w v↔Cc w v s a b:=by
 constructor
 ·rintro⟨vs,⟨xs,ys,rfl,rfl,xs2,ys2,rfl,⟨f,hE,rfl⟩,xs3,ys3,rfl,⟨g,hE',rfl⟩,h5⟩,rfl⟩;rw[show ys3=[] from h5];exact⟨f 0,g 0,by simp [yL],hE,hE'⟩
 ·rintro⟨x,y,rfl,ha,hb⟩;exact⟨[.bool s,x,y],⟨[.bool s],[x,y],rfl,rfl,[x],[y],rfl,⟨fun _=>x,ha,rfl⟩,[y],[],rfl,⟨fun _=>y,hb,rfl⟩,rfl⟩,rfl⟩
theorem rsign_q (x:Value) (r:Rat) (w:World) (hx:RQ w x r):Calls Tryz.prog 85 #[x] w (Go.Proofs.YtgdnkbajagfijaaGreatDoor.Val w (.int .i64 (sign r))):=by
 have hC:(C_sign r.num.natAbs r.den w).Ok:=uG (cq (jH ye _) (cq (jH ye _) (cq (kp _) (cq (kp _) kx)))) rfl rfl;have hT:∀ t∈t_sign,t.Valid (C_sign r.num.natAbs r.den w):=ce (yR jP (pd rfl) (rv rfl)) (ce (e_min (pv rfl) pvl (rv rfl)) cj);have hx:Cc w x (decide (r.num<0)) r.num.natAbs r.den:=hx;by_cases h:r.num<0
 ·rw[cG h] at hx;refine(kR hC hT 85 Tryz.f85 [.agg [.lit (.bool true),.cls 0 1,.cls 1 1]] (.val (vp (ii (-1)))) 60 Tryz.func85 rfl rfl rfl (by kernel_rfl) [x] ⟨_,_,rfl,rl_isS.2 hx,rfl⟩).mono ?_;rintro e w' ⟨v,rfl,hv,hb⟩;rw[val_of hv];have:sign r=-1:=by unfold sign;rw[cg (by omega),co h]
  exact⟨by rw[this],hb⟩
 ·rw[cJ h] at hx;refine(kR hC hT 85 Tryz.f85 [.agg [.lit (.bool false),.cls 0 1,.cls 1 1]] (.val (op 3)) 60 Tryz.func85 rfl rfl rfl (by kernel_rfl) [x] ⟨_,_,rfl,rl_isS.2 hx,rfl⟩).mono ?_;rintro e w' ⟨v,rfl,hv,hb⟩;rw[(yw rfl).1 hv];refine⟨?_,hb⟩;congr 2;have:=yJ (n:=r.num.natAbs);unfold sign;rw[cg h];by_cases h0:r.num=0
  ·rw[co h0,h0];have:(digs (Int.natAbs 0)).length=0:=by rw[show Int.natAbs 0=0 from rfl,digs_zero];rfl
   rw[this];rfl
  ·rw[cg h0];have:0<(digs r.num.natAbs).length:=this.2 (by omega);split<;>omega
theorem cpl (r s:Rat):sign (r-s)=kd r s:=by
 have h1:(r-s).num=0↔r-s=0:=Rat.num_eq_zero;have h2:0<=(r-s).num↔0<=r-s:=Rat.num_nonneg;unfold sign kd;by_cases a:r<s
 ·have e1:¬ r-s=0:=by grind
  have e2:¬ 0<=r-s:=by grind
  have e3:¬ (r-s).num=0:=fun h=>e1 (h1.1 h);have e4:(r-s).num<0:=Int.not_le.1 (fun h=>e2 (h2.1 h));rw[cg e3,co e4,co a]
 ·rw[cg a];have e2:0<=r-s:=by grind
  have e4:¬ (r-s).num<0:=Int.not_lt.2 (h2.2 e2);by_cases b:s<r
  ·have e1:¬ r-s=0:=by grind
   rw[cg (fun h=>e1 (h1.1 h)),cg e4,co b]
  ·have e1:r-s=0:=by grind
   rw[co (h1.2 e1),cg b]
theorem rcmp_q (x y:Value) (r s:Rat) (k:Nat) (w:World) (hx:RQ w x r) (hy:RQ w y s) (z1:Siz r k) (z2:Siz s k) (hk:k<=10000):Calls Tryz.prog 46 #[x,y] w (Go.Proofs.YtgdnkbajagfijaaGreatDoor.Val w (.int .i64 (kd r s))):=by
 have hC:(mkC [3,3,3,1] [true,true,true,true] [40] 9 [clR r k,clR s k,clR (r-s) (k+k+1),clV (ii (sign (r-s)))] w).Ok:=uG (cq (Ct ye _ _) (cq (Ct ye _ _) (cq (Ct ye _ _) (cq (kp _) kx)))) rfl rfl;have hT:∀ t∈([⟨.call 93,[rq 0,rq 1],.val (rq 2)⟩,⟨.call 85,[rq 2],.val (op 3)⟩]:List Ent),t.Valid (mkC [3,3,3,1] [true,true,true,true] [40] 9 [clR r k,clR s k,clR (r-s) (k+k+1),clV (ii (sign (r-s)))] w):=by
  refine ce (e_rsub (pr rfl) (pr rfl) rfl (WP (cb _) (by omega)) (WP (by omega) (by decide))) (ce ⟨jg Tryz.func85 (by kernel_rfl) rfl,fun w vs hb hvs=>?_⟩ cj);obtain⟨v1,_,rfl,h4,rfl⟩:=hvs;refine(rsign_q v1 (r-s) w ((yS rfl).1 h4).1).mono ?_;rintro e w' ⟨rfl,hb'⟩;exact⟨_,rfl,(yw rfl).2 rfl,hb'⟩
 refine(kR hC hT 46 Tryz.f46 [rq 0,rq 1] (.val (op 3)) 60 Tryz.func46 rfl rfl rfl (by kernel_rfl) [x,y] ⟨_,_,rfl,(yS rfl).2 ⟨hx,z1⟩,_,_,rfl,(yS rfl).2 ⟨hy,z2⟩,rfl⟩).mono ?_;rintro e w' ⟨v,rfl,hv,hb⟩;rw[(yw rfl).1 hv,← cpl];exact⟨rfl,hb⟩
section
variable {csz:List Nat}{numc:List Bool}{okT:List Nat}{nt:Nat}{cl:List Cl}{w0:World}{w:World}{v:Value}{p1 p2 p3 p4:Pat}{res:jy}{c d c1 c2 c3 c4 c5 c6:Nat}{r s t r1 r2 r3 r4:Rat}{k k1 k2 k3 k4 k5 k6:Nat}
theorem e_rcmp {x:Int}(h1:PR csz numc okT nt cl w0 p1 r k1) (h2:PR csz numc okT nt cl w0 p2 s k2) (hk:cdF (k1+k2) 10000=true) (h:kd r s=x):V csz numc okT nt cl w0 (.call 46) [p1,p2] (.val (vp (.int .i64 x))):=by
 subst h;have hk:=Wk hk;exact ent_rrv (jg Tryz.func46 (by kernel_rfl) rfl) h1 h2 (fun W v1 v2 q1 z1 q2 z2=>rcmp_q v1 v2 r s (k1+k2) W q1 q2 (z1.le (by omega)) (z2.le (by omega)) (by omega))
end
theorem cdu (r s:Rat):(kd r s=-1/\r<s)\/(kd r s=0/\r=s)\/(kd r s=1/\s<r):=by
 unfold kd;by_cases a:r<s
 ·exact .inl ⟨co a,a⟩
 ·by_cases b:s<r
  ·exact .inr (.inr ⟨by rw[cg a,co b],b⟩)
  ·exact .inr (.inl ⟨by rw[cg a,cg b],by grind⟩)
def minQ (r s:Rat):Rat:=if r<=s then r else s
def maxQ (r s:Rat):Rat:=if s<=r then r else s
theorem rmin_q (x y:Value) (r s:Rat) (k:Nat) (w:World) (hx:RQ w x r) (hy:RQ w y s) (z1:Siz r k) (z2:Siz s k) (hk:k<=5000):Calls Tryz.prog 91 #[x,y] w (RNew w (minQ r s)):=by
 have hC:(mkC [3,3] [true,true] [40] 11 [clR r k,clR s k] w).Ok:=uG (cq (Ct ye _ _) (cq (Ct ye _ _) kx)) rfl rfl;have hT:∀ i,kd r s=i->∀ t∈([⟨.call 46,[rq 0,rq 1],.val (vp (ii i))⟩]:List Ent),t.Valid (mkC [3,3] [true,true] [40] 11 [clR r k,clR s k] w):=fun i hi=>ce (e_rcmp (pr rfl) (pr rfl) (WP (by omega) (by decide)) hi) cj;have hv:jf (mkC [3,3] [true,true] [40] 11 [clR r k,clR s k] w) w [rq 0,rq 1] [x,y]:=⟨_,_,rfl,(yS rfl).2 ⟨hx,z1⟩,_,_,rfl,(yS rfl).2 ⟨hy,z2⟩,rfl⟩;unfold minQ;rcases cdu r s with⟨h,g⟩|⟨h,g⟩|⟨h,g⟩
 ·rw[co (by grind)];refine(kR hC (hT _ h) 91 Tryz.f91 [rq 0,rq 1] (.val (rq 0)) 60 Tryz.func91 rfl rfl rfl (by kernel_rfl) [x,y] hv).mono ?_;rintro e w' ⟨v,rfl,hv,hb⟩;exact⟨v,rfl,((yS rfl).1 hv).1,hb⟩
 ·rw[co (by grind)];refine(kR hC (hT _ h) 91 Tryz.f91 [rq 0,rq 1] (.val (rq 0)) 60 Tryz.func91 rfl rfl rfl (by kernel_rfl) [x,y] hv).mono ?_;rintro e w' ⟨v,rfl,hv,hb⟩;exact⟨v,rfl,((yS rfl).1 hv).1,hb⟩
 ·rw[cg (by grind)];refine(kR hC (hT _ h) 91 Tryz.f91 [rq 0,rq 1] (.val (rq 1)) 60 Tryz.func91 rfl rfl rfl (by kernel_rfl) [x,y] hv).mono ?_;rintro e w' ⟨v,rfl,hv,hb⟩;exact⟨v,rfl,((yS rfl).1 hv).1,hb⟩
theorem rmax_q (x y:Value) (r s:Rat) (k:Nat) (w:World) (hx:RQ w x r) (hy:RQ w y s) (z1:Siz r k) (z2:Siz s k) (hk:k<=5000):Calls Tryz.prog 90 #[x,y] w (RNew w (maxQ r s)):=by
 have hC:(mkC [3,3] [true,true] [40] 11 [clR r k,clR s k] w).Ok:=uG (cq (Ct ye _ _) (cq (Ct ye _ _) kx)) rfl rfl;have hT:∀ i,kd r s=i->∀ t∈([⟨.call 46,[rq 0,rq 1],.val (vp (ii i))⟩]:List Ent),t.Valid (mkC [3,3] [true,true] [40] 11 [clR r k,clR s k] w):=fun i hi=>ce (e_rcmp (pr rfl) (pr rfl) (WP (by omega) (by decide)) hi) cj;have hv:jf (mkC [3,3] [true,true] [40] 11 [clR r k,clR s k] w) w [rq 0,rq 1] [x,y]:=⟨_,_,rfl,(yS rfl).2 ⟨hx,z1⟩,_,_,rfl,(yS rfl).2 ⟨hy,z2⟩,rfl⟩;unfold maxQ;rcases cdu r s with⟨h,g⟩|⟨h,g⟩|⟨h,g⟩
 ·rw[cg (by grind)];refine(kR hC (hT _ h) 90 Tryz.f90 [rq 0,rq 1] (.val (rq 1)) 60 Tryz.func90 rfl rfl rfl (by kernel_rfl) [x,y] hv).mono ?_;rintro e w' ⟨v,rfl,hv,hb⟩;exact⟨v,rfl,((yS rfl).1 hv).1,hb⟩
 ·rw[co (by grind)];refine(kR hC (hT _ h) 90 Tryz.f90 [rq 0,rq 1] (.val (rq 0)) 60 Tryz.func90 rfl rfl rfl (by kernel_rfl) [x,y] hv).mono ?_;rintro e w' ⟨v,rfl,hv,hb⟩;exact⟨v,rfl,((yS rfl).1 hv).1,hb⟩
 ·rw[co (by grind)];refine(kR hC (hT _ h) 90 Tryz.f90 [rq 0,rq 1] (.val (rq 0)) 60 Tryz.func90 rfl rfl rfl (by kernel_rfl) [x,y] hv).mono ?_;rintro e w' ⟨v,rfl,hv,hb⟩;exact⟨v,rfl,((yS rfl).1 hv).1,hb⟩
section
variable {csz:List Nat}{numc:List Bool}{okT:List Nat}{nt:Nat}{cl:List Cl}{w0:World}{w:World}{v:Value}{p1 p2 p3 p4:Pat}{res:jy}{c d c1 c2 c3 c4 c5 c6:Nat}{r s t r1 r2 r3 r4:Rat}{k k1 k2 k3 k4 k5 k6:Nat}
theorem minQ_siz (z1:Siz r k) (z2:Siz s k):Siz (minQ r s) k:=by unfold minQ;split<;>assumption
theorem maxQ_siz (z1:Siz r k) (z2:Siz s k):Siz (maxQ r s) k:=by unfold maxQ;split<;>assumption
end
end Sym
namespace Sym
def rl (s:Bool) (c d:Nat):Pat:=.agg [.lit (.bool s),.cls c 1,.cls d 1]
section
variable {csz:List Nat}{numc:List Bool}{okT:List Nat}{nt:Nat}{cl:List Cl}{w0:World}{w:World}{v z:Value}{p1 p2 p3 p4:Pat}{res:jy}{c d c1 c2 c3 c4 c5 c6:Nat}{r s t r1 r2 r3 r4:Rat}{k k1 k2 k3 k4 k5 k6:Nat}
theorem cgB {s:Bool}{a b:Nat}(h1:cl[c]?=some (clD (digs a))) (h2:cl[d]?=some (clD (digs b))):(rl s c d).is (mkC csz numc okT nt cl w0) w v↔Cc w v s a b:=by
 constructor
 ·rintro⟨vs,⟨xs,ys,rfl,rfl,xs2,ys2,rfl,⟨f,hE,rfl⟩,xs3,ys3,rfl,⟨g,hE',rfl⟩,h5⟩,rfl⟩;rw[show ys3=[] from h5];simp only[mkC,h1] at hE;simp only[mkC,h2] at hE';exact⟨f 0,g 0,by simp [yL],hE,hE'⟩
 ·rintro⟨x,y,rfl,ha,hb⟩;refine⟨[.bool s,x,y],⟨[.bool s],[x,y],rfl,rfl,[x],[y],rfl,⟨fun _=>x,?_,rfl⟩,[y],[],rfl,⟨fun _=>y,?_,rfl⟩,rfl⟩,rfl⟩
  ·simp only[mkC,h1];exact ha
  ·simp only[mkC,h2];exact hb
theorem hd_un {o:Oper}{u:UnOp}{t:Nat}{xs:List Operand}(h:uu o=some (.un u t,xs)):∃ x,o.op=.unOp u t x/\xs=[x]:=by
 unfold uu at h;split at h<;>first
  |(rename_i h0;simp only[kD,cr,Hd.un.injEq,reduceCtorEq,Gm] at h;try (obtain⟨⟨rfl,rfl⟩,rfl⟩:=h;exact⟨_,h0,rfl⟩))
  |(split at h<;>simp at h)
  |simp at h
theorem e_un {u:UnOp}{t:Nat}{x:Value}(h1:PV csz numc okT nt cl w0 p1 x) (h3:RV csz numc okT nt cl w0 res z) (hr:∀ w,(Op.unary u x).run Tryz.prog w=.ok z w):V csz numc okT nt cl w0 (.un u t) [p1] res:=by
 intro w ρ oo xs ho hb hvs;obtain⟨a,hop,rfl⟩:=hd_un ho;obtain⟨v1,_,e1,h4,e2⟩:=hvs;obtain rfl:=h1 _ _ h4;subst e2;simp only[jN,kN,yD] at e1;obtain⟨ea,_⟩:=e1;refine⟨z,w,?_,h3 w,cu _ _⟩;show (execOp ρ oo).run Tryz.prog w=_;simp only[execOp,hop,ea,jd,hr w,jA];rfl
theorem e_negi {t:Nat}{x u:Int}(hz:-x=u) (h1:PV csz numc okT nt cl w0 p1 (ii x)) (h3:RV csz numc okT nt cl w0 res (ii u)) (hr:-9223372036854775808<=u/\u<=9223372036854775807):V csz numc okT nt cl w0 (.un .neg t) [p1] res :=
 e_un h1 h3 (fun w=>by
  show Result.ok (Value.int .i64 (IntKind.i64.wrap (0-x))) w=_;rw[show 0-x=u by omega,show IntKind.i64.wrap u=u by rw[yM];omega])
theorem e_addu {t:Nat}{x y u:Int}(hz:x+y=u) (h1:PV csz numc okT nt cl w0 p1 (.int .u64 x)) (h2:PV csz numc okT nt cl w0 p2 (.int .u64 y)) (h3:RV csz numc okT nt cl w0 res (.int .u64 u)) (hr:0<=u/\u<=18446744073709551615):V csz numc okT nt cl w0 (.bin .add t) [p1,p2] res :=
 Jt h1 h2 h3 (fun w=>by
  show Result.ok (Value.int .u64 (IntKind.u64.wrap (x+y))) w=_;rw[hz,show IntKind.u64.wrap u=u by rw[zz];omega])
end
theorem UL:digs 1=[1]:=by rw[digs_pos (by decide),show (1:Nat)/10000=0 from rfl,digs_zero]
theorem cfA {okT:List Nat}{B:Nat}(n:Int):(clV (.int .u64 n)).Ok okT B:=ZO rfl
theorem ccc {w:World}{v:Value}{i:Int}{s:Bool}(hs:s=decide (i<0)) (h:Cc w v s i.natAbs 1):RQ w v (i:Rat):=by
 subst hs;exact h
theorem rint_q (i:Int) (h1:-9223372036854775808<=i) (h2:i<=9223372036854775807) (w:World):Calls Tryz.prog 92 #[.int .i64 i] w (RNew w (i:Rat)):=by
 by_cases hi:i<0
 ·have hC:(mkC [1,1,1,1,1,1,1] [true,true,true,true,true,false,false] [40] 18 [clV (ii i),clV (ii (i+1)),clV (ii (-(i+1))),clV (.int .u64 (-(i+1))),clV (.int .u64 ((i.natAbs:Nat):Int)),clD (digs i.natAbs),clD (digs 1)] w).Ok :=
   uG (cq (kp _) (cq (kp _) (cq (kp _) (cq (cfA _) (cq (cfA _) (cq (jH ye _) (cq (jH ye _) kx))))))) rfl rfl
  have hT:∀ t∈([⟨.bin .lss 2,[op 0,vp (ii 0)],.val (vp (.bool true))⟩,⟨.bin .add 2,[op 0,vp (ii 1)],.val (op 1)⟩,⟨.un .neg 2,[op 1],.val (op 2)⟩,⟨.cv 2 31,[op 2],.val (op 3)⟩,
   ⟨.bin .add 31,[op 3,vp (.int .u64 1)],.val (op 4)⟩,⟨.call 132,[op 4],.val (op 5)⟩,⟨.bs 38 1,[vp (ii 1)],.val (op 6)⟩]:List Ent),t.Valid (mkC [1,1,1,1,1,1,1] [true,true,true,true,true,false,false] [40] 18 [clV (ii i),clV (ii (i+1)),clV (ii (-(i+1))),clV (.int .u64 (-(i+1))),clV (.int .u64 ((i.natAbs:Nat):Int)),clD (digs i.natAbs),clD (digs 1)] w) :=
   ce (CG (pv rfl) pvl (cG hi)) (ce (zM rfl (pv rfl) pvl (rv rfl) (by omega)) (ce (e_negi rfl (pv rfl) (rv rfl) (by omega)) (ce (e_cv (by kernel_rfl) (by kernel_rfl) (by kernel_rfl) (pv rfl) (rv rfl) (by rw[zz];omega))
    (ce (e_addu (by omega) (pv rfl) pvl (rv rfl) (by omega)) (ce (cbt (by omega) (pv rfl) (rd rfl)) (ce (ckZ (x:=1) pvl (rd (by rw[← UL];rfl))) cj))))))
  refine(kR hC hT 92 Tryz.f92 [op 0] (.val (rl true 5 6)) 60 Tryz.func92 rfl rfl rfl (by kernel_rfl) [.int .i64 i] ⟨_,_,rfl,(yw rfl).2 rfl,rfl⟩).mono ?_;rintro e w' ⟨v,rfl,hv,hb⟩;exact⟨v,rfl,ccc (by simp [hi]) ((cgB rfl rfl).1 hv),hb⟩
 ·have hC:(mkC [1,1,1,1] [true,true,false,false] [40] 18 [clV (ii i),clV (.int .u64 ((i.natAbs:Nat):Int)),clD (digs i.natAbs),clD (digs 1)] w).Ok :=
   uG (cq (kp _) (cq (cfA _) (cq (jH ye _) (cq (jH ye _) kx)))) rfl rfl
  have ei:(i.natAbs:Int)=i:=by omega
  have hT:∀ t∈([⟨.bin .lss 2,[op 0,vp (ii 0)],.val (vp (.bool false))⟩,⟨.cv 2 31,[op 0],.val (op 1)⟩,
   ⟨.call 132,[op 1],.val (op 2)⟩,⟨.bs 38 1,[vp (ii 1)],.val (op 3)⟩]:List Ent),t.Valid (mkC [1,1,1,1] [true,true,false,false] [40] 18 [clV (ii i),clV (.int .u64 ((i.natAbs:Nat):Int)),clD (digs i.natAbs),clD (digs 1)] w) :=
   ce (CG (pv rfl) pvl (cJ hi)) (ce (e_cv (x:=i) (by kernel_rfl) (by kernel_rfl) (by kernel_rfl) (pv rfl) (by rw[← ei];exact rv rfl) (by rw[zz];omega))
    (ce (cbt (by omega) (pv rfl) (rd rfl)) (ce (ckZ (x:=1) pvl (rd (by rw[← UL];rfl))) cj)))
  refine(kR hC hT 92 Tryz.f92 [op 0] (.val (rl false 2 3)) 60 Tryz.func92 rfl rfl rfl (by kernel_rfl) [.int .i64 i] ⟨_,_,rfl,(yw rfl).2 rfl,rfl⟩).mono ?_;rintro e w' ⟨v,rfl,hv,hb⟩;exact⟨v,rfl,ccc (by simp [hi]) ((cgB rfl rfl).1 hv),hb⟩
section
variable {csz:List Nat}{numc:List Bool}{okT:List Nat}{nt:Nat}{cl:List Cl}{w0:World}{w:World}{v z:Value}{p1 p2 p3 p4:Pat}{res:jy}{c d c1 c2 c3 c4 c5 c6:Nat}{r s t r1 r2 r3 r4:Rat}{k k1 k2 k3 k4 k5 k6:Nat}
theorem e_rint {i:Int}(h1:-9223372036854775808<=i) (h2:i<=9223372036854775807) (h3:cl[c3]?=some (clR (i:Rat) k3)) (hk:cdF 1 k3=true):V csz numc okT nt cl w0 (.call 92) [vp (ii i)] (.val (rq c3)):=by
 refine⟨jg Tryz.func92 (by kernel_rfl) rfl,fun w vs hb hvs=>?_⟩;obtain⟨v1,_,rfl,g4,rfl⟩:=hvs;obtain rfl:=Gh.1 g4;refine(rint_q i h1 h2 w).mono ?_;rintro e w' ⟨v,rfl,hv,hb'⟩;exact⟨v,rfl,(yS h3).2 ⟨hv,(EK i h1 h2).le (Wk hk).1⟩,hb'⟩
end
end Sym
end Go.Proofs.YtgdnkbajagfijaaGreatDoor
