/- Part 25. -/
import Derived.Test.YtdopipkmcnkdjaaGreatDoorE24
set_option linter.all false

namespace Go.Proofs.YtdopipkmcnkdjaaGreatDoor
open Go Go.RowKit Go.Proofs Lim
theorem clL (r:Rat):yK r=if r<0 then -1 else if 0<r then 1 else 0:=by
 unfold yK;have h:r.num=0↔r=0:=Rat.num_eq_zero;have h2:0<=r.num↔0<=r:=Rat.num_nonneg;have h3:r.num<0↔r<0:=by rw[← Int.not_le,h2,Rat.not_le]
 by_cases e:r=0
 ·subst e;decide+kernel
 ·rw[cg (fun k=>e (h.1 k))];by_cases k:r<0
  ·rw[co (h3.2 k),co k]
  ·rw[cg (fun j=>k (h3.1 j)),cg k,co (by grind)]
theorem cfo {x y:Rat}:jk x y<=0↔x<=y:=by unfold jk;grind
namespace Sym
theorem Wq {n k:Nat}(h1:n<=k) (h2:k<=100000):cdI n k=true:=by
 simp only[cdI,EL];exact⟨Jp h1,Jp h2⟩
theorem rsub_q (x y:Value) (r s:Rat) (k:Nat) (w:World) (hx:RQ w x r) (hy:RQ w y s) (z1:Siz r k) (z2:Siz s k) (hk:k+k+1<=100000):Calls Tryz.prog 63 #[x,y] w (RNew w (r-s)):=by
 have hC:(mkC [3,3,3,3] [true,true,true,true] [40] 9 [clR r k,clR s k,clR (-s) k,clR (r+-s) (k+k+1)] w).Ok:=uw (cn (zW yk _ _) (cn (zW yk _ _) (cn (zW yk _ _) (cn (zW yk _ _) kr)))) rfl rfl;have hT:∀ t∈([⟨.call 101,[rq 1],.val (rq 2)⟩,⟨.call 100,[rq 0,rq 2],.val (rq 3)⟩]:List Ent),t.Valid (mkC [3,3,3,3] [true,true,true,true] [40] 9 [clR r k,clR s k,clR (-s) k,clR (r+-s) (k+k+1)] w) :=
  ce (e_rneg (pr rfl) rfl (Wq (cb _) (by omega))) (ce (e_radd (pr rfl) (pr rfl) rfl (Wq (cb _) hk)) cj)
 refine(kM hC hT 63 Tryz.f63 [rq 0,rq 1] (.val (rq 3)) 60 Tryz.func63 rfl rfl rfl (by kernel_rfl) [x,y] ⟨_,_,rfl,(yL rfl).2 ⟨hx,z1⟩,_,_,rfl,(yL rfl).2 ⟨hy,z2⟩,rfl⟩).mono ?_;rintro e w' ⟨v,rfl,hv,hb⟩;refine⟨v,rfl,?_,hb⟩;rw[Rat.sub_eq_add_neg];exact((yL rfl).1 hv).1
section
variable {csz:List Nat}{numc:List Bool}{okT:List Nat}{nt:Nat}{cl:List Cl}{w0:World}{w:World}{v:Value}{p1 p2 p3 p4:Pat}{res:jH}{c d c1 c2 c3 c4 c5 c6:Nat}{r s t r1 r2 r3 r4:Rat}{k k1 k2 k3 k4 k5 k6:Nat}
theorem e_rsub (h1:PR csz numc okT nt cl w0 p1 r k1) (h2:PR csz numc okT nt cl w0 p2 s k2) (h3:cl[c3]?=some (clR (r-s) k3)) (hk:cdI (k1+k2+1) k3=true) (hk':cdI k3 40000=true):V csz numc okT nt cl w0 (.call 63) [p1,p2] (.val (rq c3)):=by
 have hk:=WQ hk;have hk':=WQ hk';exact cln (cY Tryz.func63 (by kernel_rfl) rfl) h1 h2 h3 (fun z1 z2=>(z1.sub z2).le (by omega)) (fun W v1 v2 q1 z1 q2 z2=>rsub_q v1 v2 r s k3 W q1 q2 (z1.le (by omega)) (z2.le (by omega)) (by omega))
end
def t_sign:List Ent:=[⟨.blt .len [38] 3,[op 0],.val (op 2)⟩,⟨.blt .min [3,3] 3,[op 2,vp (ii 1)],.val (op 3)⟩]
abbrev cl_sign (a b:Nat):List Cl:=[clD (digs a),clD (digs b),clV (ii ((digs a).length:Int)),clV (ii (if (1:Int)<((digs a).length:Int) then 1 else ((digs a).length:Int)))]
noncomputable abbrev C_sign (a b:Nat) (w:World):Ctx:=mkC [1,1,1,1] [false,false,true,true] [40] 9 (cl_sign a b) w
theorem rl_isS {a b:Nat}{w0 w:World}{v:Value}{s:Bool}:(Pat.agg [.lit (.bool s),.cls 0 1,.cls 1 1]).is (C_sign a b w0) w v↔Cf w v s a b:=by
 constructor
 ·rintro⟨vs,⟨xs,ys,rfl,rfl,xs2,ys2,rfl,⟨f,hE,rfl⟩,xs3,ys3,rfl,⟨g,hE',rfl⟩,h5⟩,rfl⟩;rw[show ys3=[] from h5];exact⟨f 0,g 0,by simp [yW],hE,hE'⟩
 ·rintro⟨x,y,rfl,ha,hb⟩;exact⟨[.bool s,x,y],⟨[.bool s],[x,y],rfl,rfl,[x],[y],rfl,⟨fun _=>x,ha,rfl⟩,[y],[],rfl,⟨fun _=>y,hb,rfl⟩,rfl⟩,rfl⟩
theorem rsign_q (x:Value) (r:Rat) (w:World) (hx:RQ w x r):Calls Tryz.prog 53 #[x] w (Go.Proofs.YtdopipkmcnkdjaaGreatDoor.Val w (.int .i64 (yK r))):=by
 have hC:(C_sign r.num.natAbs r.den w).Ok:=uw (cn (jK yk _) (cn (jK yk _) (cn (kx _) (cn (kx _) kr)))) rfl rfl;have hT:∀ t∈t_sign,t.Valid (C_sign r.num.natAbs r.den w):=ce (yY jU (pd rfl) (rv rfl)) (ce (e_min (pv rfl) pvl (rv rfl)) cj);have hx:Cf w x (decide (r.num<0)) r.num.natAbs r.den:=hx;by_cases h:r.num<0
 ·rw[cF h] at hx;refine(kM hC hT 53 Tryz.f53 [.agg [.lit (.bool true),.cls 0 1,.cls 1 1]] (.val (vp (ii (-1)))) 60 Tryz.func53 rfl rfl rfl (by kernel_rfl) [x] ⟨_,_,rfl,rl_isS.2 hx,rfl⟩).mono ?_;rintro e w' ⟨v,rfl,hv,hb⟩;rw[cfZ hv];have:yK r=-1:=by unfold yK;rw[cg (by omega),co h]
  exact⟨by rw[this],hb⟩
 ·rw[cK h] at hx;refine(kM hC hT 53 Tryz.f53 [.agg [.lit (.bool false),.cls 0 1,.cls 1 1]] (.val (op 3)) 60 Tryz.func53 rfl rfl rfl (by kernel_rfl) [x] ⟨_,_,rfl,rl_isS.2 hx,rfl⟩).mono ?_;rintro e w' ⟨v,rfl,hv,hb⟩;rw[(yB rfl).1 hv];refine⟨?_,hb⟩;congr 2;have:=yO (n:=r.num.natAbs);unfold yK;rw[cg h];by_cases h0:r.num=0
  ·rw[co h0,h0];have:(digs (Int.natAbs 0)).length=0:=by rw[show Int.natAbs 0=0 from rfl,digs_zero];rfl
   rw[this];rfl
  ·rw[cg h0];have:0<(digs r.num.natAbs).length:=this.2 (by omega);split<;>omega
theorem coe (r s:Rat):yK (r-s)=jk r s:=by
 have h1:(r-s).num=0↔r-s=0:=Rat.num_eq_zero;have h2:0<=(r-s).num↔0<=r-s:=Rat.num_nonneg;unfold yK jk;by_cases a:r<s
 ·have e1:¬ r-s=0:=by grind
  have e2:¬ 0<=r-s:=by grind
  have e3:¬ (r-s).num=0:=fun h=>e1 (h1.1 h);have e4:(r-s).num<0:=Int.not_le.1 (fun h=>e2 (h2.1 h));rw[cg e3,co e4,co a]
 ·rw[cg a];have e2:0<=r-s:=by grind
  have e4:¬ (r-s).num<0:=Int.not_lt.2 (h2.2 e2);by_cases b:s<r
  ·have e1:¬ r-s=0:=by grind
   rw[cg (fun h=>e1 (h1.1 h)),cg e4,co b]
  ·have e1:r-s=0:=by grind
   rw[co (h1.2 e1),cg b]
theorem rcmp_q (x y:Value) (r s:Rat) (k:Nat) (w:World) (hx:RQ w x r) (hy:RQ w y s) (z1:Siz r k) (z2:Siz s k) (hk:k<=10000):Calls Tryz.prog 30 #[x,y] w (Go.Proofs.YtdopipkmcnkdjaaGreatDoor.Val w (.int .i64 (jk r s))):=by
 have hC:(mkC [3,3,3,1] [true,true,true,true] [40] 9 [clR r k,clR s k,clR (r-s) (k+k+1),clV (ii (yK (r-s)))] w).Ok:=uw (cn (zW yk _ _) (cn (zW yk _ _) (cn (zW yk _ _) (cn (kx _) kr)))) rfl rfl;have hT:∀ t∈([⟨.call 63,[rq 0,rq 1],.val (rq 2)⟩,⟨.call 53,[rq 2],.val (op 3)⟩]:List Ent),t.Valid (mkC [3,3,3,1] [true,true,true,true] [40] 9 [clR r k,clR s k,clR (r-s) (k+k+1),clV (ii (yK (r-s)))] w):=by
  refine ce (e_rsub (pr rfl) (pr rfl) rfl (Wq (cb _) (by omega)) (Wq (by omega) (by decide))) (ce ⟨cY Tryz.func53 (by kernel_rfl) rfl,fun w vs hb hvs=>?_⟩ cj);obtain⟨v1,_,rfl,h4,rfl⟩:=hvs;refine(rsign_q v1 (r-s) w ((yL rfl).1 h4).1).mono ?_;rintro e w' ⟨rfl,hb'⟩;exact⟨_,rfl,(yB rfl).2 rfl,hb'⟩
 refine(kM hC hT 30 Tryz.f30 [rq 0,rq 1] (.val (op 3)) 60 Tryz.func30 rfl rfl rfl (by kernel_rfl) [x,y] ⟨_,_,rfl,(yL rfl).2 ⟨hx,z1⟩,_,_,rfl,(yL rfl).2 ⟨hy,z2⟩,rfl⟩).mono ?_;rintro e w' ⟨v,rfl,hv,hb⟩;rw[(yB rfl).1 hv,← coe];exact⟨rfl,hb⟩
section
variable {csz:List Nat}{numc:List Bool}{okT:List Nat}{nt:Nat}{cl:List Cl}{w0:World}{w:World}{v:Value}{p1 p2 p3 p4:Pat}{res:jH}{c d c1 c2 c3 c4 c5 c6:Nat}{r s t r1 r2 r3 r4:Rat}{k k1 k2 k3 k4 k5 k6:Nat}
theorem e_rcmp {x:Int}(h1:PR csz numc okT nt cl w0 p1 r k1) (h2:PR csz numc okT nt cl w0 p2 s k2) (hk:cdI (k1+k2) 10000=true) (h:jk r s=x):V csz numc okT nt cl w0 (.call 30) [p1,p2] (.val (vp (.int .i64 x))):=by
 subst h;have hk:=WQ hk;exact ent_rrv (cY Tryz.func30 (by kernel_rfl) rfl) h1 h2 (fun W v1 v2 q1 z1 q2 z2=>rcmp_q v1 v2 r s (k1+k2) W q1 q2 (z1.le (by omega)) (z2.le (by omega)) (by omega))
end
theorem ccZ (r s:Rat):(jk r s=-1/\r<s)\/(jk r s=0/\r=s)\/(jk r s=1/\s<r):=by
 unfold jk;by_cases a:r<s
 ·exact .inl ⟨co a,a⟩
 ·by_cases b:s<r
  ·exact .inr (.inr ⟨by rw[cg a,co b],b⟩)
  ·exact .inr (.inl ⟨by rw[cg a,cg b],by grind⟩)
def minQ (r s:Rat):Rat:=if r<=s then r else s
def maxQ (r s:Rat):Rat:=if s<=r then r else s
theorem rmin_q (x y:Value) (r s:Rat) (k:Nat) (w:World) (hx:RQ w x r) (hy:RQ w y s) (z1:Siz r k) (z2:Siz s k) (hk:k<=5000):Calls Tryz.prog 61 #[x,y] w (RNew w (minQ r s)):=by
 have hC:(mkC [3,3] [true,true] [40] 11 [clR r k,clR s k] w).Ok:=uw (cn (zW yk _ _) (cn (zW yk _ _) kr)) rfl rfl;have hT:∀ i,jk r s=i->∀ t∈([⟨.call 30,[rq 0,rq 1],.val (vp (ii i))⟩]:List Ent),t.Valid (mkC [3,3] [true,true] [40] 11 [clR r k,clR s k] w):=fun i hi=>ce (e_rcmp (pr rfl) (pr rfl) (Wq (by omega) (by decide)) hi) cj;have hv:jb (mkC [3,3] [true,true] [40] 11 [clR r k,clR s k] w) w [rq 0,rq 1] [x,y]:=⟨_,_,rfl,(yL rfl).2 ⟨hx,z1⟩,_,_,rfl,(yL rfl).2 ⟨hy,z2⟩,rfl⟩;unfold minQ;rcases ccZ r s with⟨h,g⟩|⟨h,g⟩|⟨h,g⟩
 ·rw[co (by grind)];refine(kM hC (hT _ h) 61 Tryz.f61 [rq 0,rq 1] (.val (rq 0)) 60 Tryz.func61 rfl rfl rfl (by kernel_rfl) [x,y] hv).mono ?_;rintro e w' ⟨v,rfl,hv,hb⟩;exact⟨v,rfl,((yL rfl).1 hv).1,hb⟩
 ·rw[co (by grind)];refine(kM hC (hT _ h) 61 Tryz.f61 [rq 0,rq 1] (.val (rq 0)) 60 Tryz.func61 rfl rfl rfl (by kernel_rfl) [x,y] hv).mono ?_;rintro e w' ⟨v,rfl,hv,hb⟩;exact⟨v,rfl,((yL rfl).1 hv).1,hb⟩
 ·rw[cg (by grind)];refine(kM hC (hT _ h) 61 Tryz.f61 [rq 0,rq 1] (.val (rq 1)) 60 Tryz.func61 rfl rfl rfl (by kernel_rfl) [x,y] hv).mono ?_;rintro e w' ⟨v,rfl,hv,hb⟩;exact⟨v,rfl,((yL rfl).1 hv).1,hb⟩
theorem rmax_q (x y:Value) (r s:Rat) (k:Nat) (w:World) (hx:RQ w x r) (hy:RQ w y s) (z1:Siz r k) (z2:Siz s k) (hk:k<=5000):Calls Tryz.prog 60 #[x,y] w (RNew w (maxQ r s)):=by
 have hC:(mkC [3,3] [true,true] [40] 11 [clR r k,clR s k] w).Ok:=uw (cn (zW yk _ _) (cn (zW yk _ _) kr)) rfl rfl;have hT:∀ i,jk r s=i->∀ t∈([⟨.call 30,[rq 0,rq 1],.val (vp (ii i))⟩]:List Ent),t.Valid (mkC [3,3] [true,true] [40] 11 [clR r k,clR s k] w):=fun i hi=>ce (e_rcmp (pr rfl) (pr rfl) (Wq (by omega) (by decide)) hi) cj;have hv:jb (mkC [3,3] [true,true] [40] 11 [clR r k,clR s k] w) w [rq 0,rq 1] [x,y]:=⟨_,_,rfl,(yL rfl).2 ⟨hx,z1⟩,_,_,rfl,(yL rfl).2 ⟨hy,z2⟩,rfl⟩;unfold maxQ;rcases ccZ r s with⟨h,g⟩|⟨h,g⟩|⟨h,g⟩
 ·rw[cg (by grind)];refine(kM hC (hT _ h) 60 Tryz.f60 [rq 0,rq 1] (.val (rq 1)) 60 Tryz.func60 rfl rfl rfl (by kernel_rfl) [x,y] hv).mono ?_;rintro e w' ⟨v,rfl,hv,hb⟩;exact⟨v,rfl,((yL rfl).1 hv).1,hb⟩
 ·rw[co (by grind)];refine(kM hC (hT _ h) 60 Tryz.f60 [rq 0,rq 1] (.val (rq 0)) 60 Tryz.func60 rfl rfl rfl (by kernel_rfl) [x,y] hv).mono ?_;rintro e w' ⟨v,rfl,hv,hb⟩;exact⟨v,rfl,((yL rfl).1 hv).1,hb⟩
 ·rw[co (by grind)];refine(kM hC (hT _ h) 60 Tryz.f60 [rq 0,rq 1] (.val (rq 0)) 60 Tryz.func60 rfl rfl rfl (by kernel_rfl) [x,y] hv).mono ?_;rintro e w' ⟨v,rfl,hv,hb⟩;exact⟨v,rfl,((yL rfl).1 hv).1,hb⟩
section
variable {csz:List Nat}{numc:List Bool}{okT:List Nat}{nt:Nat}{cl:List Cl}{w0:World}{w:World}{v:Value}{p1 p2 p3 p4:Pat}{res:jH}{c d c1 c2 c3 c4 c5 c6:Nat}{r s t r1 r2 r3 r4:Rat}{k k1 k2 k3 k4 k5 k6:Nat}
theorem minQ_siz (z1:Siz r k) (z2:Siz s k):Siz (minQ r s) k:=by unfold minQ;split<;>assumption
theorem maxQ_siz (z1:Siz r k) (z2:Siz s k):Siz (maxQ r s) k:=by unfold maxQ;split<;>assumption
end
end Sym
namespace Sym
def rl (s:Bool) (c d:Nat):Pat:=.agg [.lit (.bool s),.cls c 1,.cls d 1]
section
variable {csz:List Nat}{numc:List Bool}{okT:List Nat}{nt:Nat}{cl:List Cl}{w0:World}{w:World}{v z:Value}{p1 p2 p3 p4:Pat}{res:jH}{c d c1 c2 c3 c4 c5 c6:Nat}{r s t r1 r2 r3 r4:Rat}{k k1 k2 k3 k4 k5 k6:Nat}
theorem cfk {s:Bool}{a b:Nat}(h1:cl[c]?=some (clD (digs a))) (h2:cl[d]?=some (clD (digs b))):(rl s c d).is (mkC csz numc okT nt cl w0) w v↔Cf w v s a b:=by
 constructor
 ·rintro⟨vs,⟨xs,ys,rfl,rfl,xs2,ys2,rfl,⟨f,hE,rfl⟩,xs3,ys3,rfl,⟨g,hE',rfl⟩,h5⟩,rfl⟩;rw[show ys3=[] from h5];simp only[mkC,h1] at hE;simp only[mkC,h2] at hE';exact⟨f 0,g 0,by simp [yW],hE,hE'⟩
 ·rintro⟨x,y,rfl,ha,hb⟩;refine⟨[.bool s,x,y],⟨[.bool s],[x,y],rfl,rfl,[x],[y],rfl,⟨fun _=>x,?_,rfl⟩,[y],[],rfl,⟨fun _=>y,?_,rfl⟩,rfl⟩,rfl⟩
  ·simp only[mkC,h1];exact ha
  ·simp only[mkC,h2];exact hb
theorem hd_un {o:Oper}{u:UnOp}{t:Nat}{xs:List Operand}(h:uA o=some (.un u t,xs)):∃ x,o.op=.unOp u t x/\xs=[x]:=by
 unfold uA at h;split at h<;>first
  |(rename_i h0;simp only[kJ,cr,Hd.un.injEq,reduceCtorEq,GD] at h;try (obtain⟨⟨rfl,rfl⟩,rfl⟩:=h;exact⟨_,h0,rfl⟩))
  |(split at h<;>simp at h)
  |simp at h
theorem e_un {u:UnOp}{t:Nat}{x:Value}(h1:PV csz numc okT nt cl w0 p1 x) (h3:RV csz numc okT nt cl w0 res z) (hr:∀ w,(Op.unary u x).run Tryz.prog w=.ok z w):V csz numc okT nt cl w0 (.un u t) [p1] res:=by
 intro w ρ oo xs ho hb hvs;obtain⟨a,hop,rfl⟩:=hd_un ho;obtain⟨v1,_,e1,h4,e2⟩:=hvs;obtain rfl:=h1 _ _ h4;subst e2;simp only[jR,kW,yG] at e1;obtain⟨ea,_⟩:=e1;refine⟨z,w,?_,h3 w,cw _ _⟩;show (execOp ρ oo).run Tryz.prog w=_;simp only[execOp,hop,ea,jc,hr w,jC];rfl
theorem e_negi {t:Nat}{x u:Int}(hz:-x=u) (h1:PV csz numc okT nt cl w0 p1 (ii x)) (h3:RV csz numc okT nt cl w0 res (ii u)) (hr:-9223372036854775808<=u/\u<=9223372036854775807):V csz numc okT nt cl w0 (.un .neg t) [p1] res :=
 e_un h1 h3 (fun w=>by
  show Result.ok (Value.int .i64 (IntKind.i64.wrap (0-x))) w=_;rw[show 0-x=u by omega,show IntKind.i64.wrap u=u by rw[zH];omega])
theorem e_addu {t:Nat}{x y u:Int}(hz:x+y=u) (h1:PV csz numc okT nt cl w0 p1 (.int .u64 x)) (h2:PV csz numc okT nt cl w0 p2 (.int .u64 y)) (h3:RV csz numc okT nt cl w0 res (.int .u64 u)) (hr:0<=u/\u<=18446744073709551615):V csz numc okT nt cl w0 (.bin .add t) [p1,p2] res :=
 Jt h1 h2 h3 (fun w=>by
  show Result.ok (Value.int .u64 (IntKind.u64.wrap (x+y))) w=_;rw[hz,show IntKind.u64.wrap u=u by rw[zA];omega])
end
theorem UI:digs 1=[1]:=by rw[digs_pos (by decide),show (1:Nat)/10000=0 from rfl,digs_zero]
theorem cgu {okT:List Nat}{B:Nat}(n:Int):(clV (.int .u64 n)).Ok okT B:=cam rfl
theorem cdf {w:World}{v:Value}{i:Int}{s:Bool}(hs:s=decide (i<0)) (h:Cf w v s i.natAbs 1):RQ w v (i:Rat):=by
 subst hs;exact h
theorem rint_q (i:Int) (h1:-9223372036854775808<=i) (h2:i<=9223372036854775807) (w:World):Calls Tryz.prog 62 #[.int .i64 i] w (RNew w (i:Rat)):=by
 by_cases hi:i<0
 ·have hC:(mkC [1,1,1,1,1,1,1] [true,true,true,true,true,false,false] [40] 18 [clV (ii i),clV (ii (i+1)),clV (ii (-(i+1))),clV (.int .u64 (-(i+1))),clV (.int .u64 ((i.natAbs:Nat):Int)),clD (digs i.natAbs),clD (digs 1)] w).Ok :=
   uw (cn (kx _) (cn (kx _) (cn (kx _) (cn (cgu _) (cn (cgu _) (cn (jK yk _) (cn (jK yk _) kr))))))) rfl rfl
  have hT:∀ t∈([⟨.bin .lss 2,[op 0,vp (ii 0)],.val (vp (.bool true))⟩,⟨.bin .add 2,[op 0,vp (ii 1)],.val (op 1)⟩,⟨.un .neg 2,[op 1],.val (op 2)⟩,⟨.cv 2 31,[op 2],.val (op 3)⟩,
   ⟨.bin .add 31,[op 3,vp (.int .u64 1)],.val (op 4)⟩,⟨.call 99,[op 4],.val (op 5)⟩,⟨.bs 38 1,[vp (ii 1)],.val (op 6)⟩]:List Ent),t.Valid (mkC [1,1,1,1,1,1,1] [true,true,true,true,true,false,false] [40] 18 [clV (ii i),clV (ii (i+1)),clV (ii (-(i+1))),clV (.int .u64 (-(i+1))),clV (.int .u64 ((i.natAbs:Nat):Int)),clD (digs i.natAbs),clD (digs 1)] w) :=
   ce (CH (pv rfl) pvl (cF hi)) (ce (zR rfl (pv rfl) pvl (rv rfl) (by omega)) (ce (e_negi rfl (pv rfl) (rv rfl) (by omega)) (ce (e_cv (by kernel_rfl) (by kernel_rfl) (by kernel_rfl) (pv rfl) (rv rfl) (by rw[zA];omega))
    (ce (e_addu (by omega) (pv rfl) pvl (rv rfl) (by omega)) (ce (cbN (by omega) (pv rfl) (rd rfl)) (ce (ckF (x:=1) pvl (rd (by rw[← UI];rfl))) cj))))))
  refine(kM hC hT 62 Tryz.f62 [op 0] (.val (rl true 5 6)) 60 Tryz.func62 rfl rfl rfl (by kernel_rfl) [.int .i64 i] ⟨_,_,rfl,(yB rfl).2 rfl,rfl⟩).mono ?_;rintro e w' ⟨v,rfl,hv,hb⟩;exact⟨v,rfl,cdf (by simp [hi]) ((cfk rfl rfl).1 hv),hb⟩
 ·have hC:(mkC [1,1,1,1] [true,true,false,false] [40] 18 [clV (ii i),clV (.int .u64 ((i.natAbs:Nat):Int)),clD (digs i.natAbs),clD (digs 1)] w).Ok :=
   uw (cn (kx _) (cn (cgu _) (cn (jK yk _) (cn (jK yk _) kr)))) rfl rfl
  have ei:(i.natAbs:Int)=i:=by omega
  have hT:∀ t∈([⟨.bin .lss 2,[op 0,vp (ii 0)],.val (vp (.bool false))⟩,⟨.cv 2 31,[op 0],.val (op 1)⟩,
   ⟨.call 99,[op 1],.val (op 2)⟩,⟨.bs 38 1,[vp (ii 1)],.val (op 3)⟩]:List Ent),t.Valid (mkC [1,1,1,1] [true,true,false,false] [40] 18 [clV (ii i),clV (.int .u64 ((i.natAbs:Nat):Int)),clD (digs i.natAbs),clD (digs 1)] w) :=
   ce (CH (pv rfl) pvl (cK hi)) (ce (e_cv (x:=i) (by kernel_rfl) (by kernel_rfl) (by kernel_rfl) (pv rfl) (by rw[← ei];exact rv rfl) (by rw[zA];omega))
    (ce (cbN (by omega) (pv rfl) (rd rfl)) (ce (ckF (x:=1) pvl (rd (by rw[← UI];rfl))) cj)))
  refine(kM hC hT 62 Tryz.f62 [op 0] (.val (rl false 2 3)) 60 Tryz.func62 rfl rfl rfl (by kernel_rfl) [.int .i64 i] ⟨_,_,rfl,(yB rfl).2 rfl,rfl⟩).mono ?_;rintro e w' ⟨v,rfl,hv,hb⟩;exact⟨v,rfl,cdf (by simp [hi]) ((cfk rfl rfl).1 hv),hb⟩
section
variable {csz:List Nat}{numc:List Bool}{okT:List Nat}{nt:Nat}{cl:List Cl}{w0:World}{w:World}{v z:Value}{p1 p2 p3 p4:Pat}{res:jH}{c d c1 c2 c3 c4 c5 c6:Nat}{r s t r1 r2 r3 r4:Rat}{k k1 k2 k3 k4 k5 k6:Nat}
theorem e_rint {i:Int}(h1:-9223372036854775808<=i) (h2:i<=9223372036854775807) (h3:cl[c3]?=some (clR (i:Rat) k3)) (hk:cdI 1 k3=true):V csz numc okT nt cl w0 (.call 62) [vp (ii i)] (.val (rq c3)):=by
 refine⟨cY Tryz.func62 (by kernel_rfl) rfl,fun w vs hb hvs=>?_⟩;obtain⟨v1,_,rfl,g4,rfl⟩:=hvs;obtain rfl:=Gk.1 g4;refine(rint_q i h1 h2 w).mono ?_;rintro e w' ⟨v,rfl,hv,hb'⟩;exact⟨v,rfl,(yL h3).2 ⟨hv,(ckP i h1 h2).le (WQ hk).1⟩,hb'⟩
end
end Sym
end Go.Proofs.YtdopipkmcnkdjaaGreatDoor
