/- Part 23. -/
import Derived.Test.YtobfdjojhfpakaaGreatDoorW22
set_option linter.all false
open Bool (and_eq_true)
open Go.IntKind (wrap_i64 wrap_u64)
open List (map_cons range_succ)
open Nat (le_refl)
open Go.Result (andThen_ok)
open Go.Sem (run_bind)

namespace Go.Proofs.YtobfdjojhfpakaaGreatDoor
open Go Go.RowKit Go.Proofs Lim
open Go Go.RowKit Go.Proofs Lim
namespace Sym
theorem JJ {n k:Nat}(h1:n<=k) (h2:k<=100000):Zz n k=true:=by
 simp only[Zz,and_eq_true];exact⟨Nat.ble_eq_true_of_le h1,Nat.ble_eq_true_of_le h2⟩
theorem rsub_q (x y:Value) (r s:Rat) (k:Nat) (w:World) (hx:RQ w x r) (hy:RQ w y s) (z1:Siz r k) (z2:Siz s k) (hk:k+k+1<=100000):Calls Tryz.prog 123 #[x,y] w (RNew w (r-s)):=by
 have hC:(mkC [3,3,3,3] [true,true,true,true] [39] 9 [clR r k,clR s k,clR (-s) k,clR (r+-s) (k+k+1)] w).Ok:=jX (ce (ye kd _ _) (ce (ye kd _ _) (ce (ye kd _ _) (ce (ye kd _ _) js)))) rfl rfl;have hT:∀ t∈([⟨.call 74,[rq 1],.val (rq 2)⟩,⟨.call 116,[rq 0,rq 2],.val (rq 3)⟩]:List Ent),t.Valid (mkC [3,3,3,3] [true,true,true,true] [39] 9 [clR r k,clR s k,clR (-s) k,clR (r+-s) (k+k+1)] w) :=
  ca (e_rneg (pr rfl) rfl (JJ (le_refl _) (by omega))) (ca (e_radd (pr rfl) (pr rfl) rfl (JJ (le_refl _) hk)) cc)
 refine(jH hC hT 123 Tryz.f123 [rq 0,rq 1] (.val (rq 3)) 60 Tryz.func123 rfl rfl rfl (by kernel_rfl) [x,y] ⟨_,_,rfl,(ur rfl).2 ⟨hx,z1⟩,_,_,rfl,(ur rfl).2 ⟨hy,z2⟩,rfl⟩).mono ?_;rintro e w' ⟨v,rfl,hv,hb⟩;refine⟨v,rfl,?_,hb⟩;rw[Rat.sub_eq_add_neg];exact((ur rfl).1 hv).1
section
variable {csz:List Nat}{numc:List Bool}{okT:List Nat}{nt:Nat}{cl:List Cl}{w0:World}{w:World}{v:Value}{p1 p2 p3 p4:Pat}{res:cY}{c d c1 c2 c3 c4 c5 c6:Nat}{r s t r1 r2 r3 r4:Rat}{k k1 k2 k3 k4 k5 k6:Nat}
theorem e_rsub (h1:PR csz numc okT nt cl w0 p1 r k1) (h2:PR csz numc okT nt cl w0 p2 s k2) (h3:cl[c3]?=some (clR (r-s) k3)) (hk:Zz (k1+k2+1) k3=true) (hk':Zz k3 40000=true):V csz numc okT nt cl w0 (.call 123) [p1,p2] (.val (rq c3)):=by
 have hk:=Jv hk;have hk':=Jv hk';exact cfO (enters_of Tryz.func123 (by kernel_rfl) rfl) h1 h2 h3 (fun z1 z2=>(z1.sub z2).le (by omega)) (fun W v1 v2 q1 z1 q2 z2=>rsub_q v1 v2 r s k3 W q1 q2 (z1.le (by omega)) (z2.le (by omega)) (by omega))
end
def t_sign:List Ent:=[⟨.blt .len [37] 3,[op 0],.val (op 2)⟩,⟨.blt .min [3,3] 3,[op 2,vp (ii 1)],.val (op 3)⟩]
abbrev cl_sign (a b:Nat):List Cl:=[clD (digs a),clD (digs b),clV (ii ((digs a).length:Int)),clV (ii (if (1:Int)<((digs a).length:Int) then 1 else ((digs a).length:Int)))]
noncomputable abbrev C_sign (a b:Nat) (w:World):Ctx:=mkC [1,1,1,1] [false,false,true,true] [39] 9 (cl_sign a b) w
theorem rl_isS {a b:Nat}{w0 w:World}{v:Value}{s:Bool}:(Pat.agg [.lit (.bool s),.cls 0 1,.cls 1 1]).is (C_sign a b w0) w v↔uG w v s a b:=by
 constructor
 ·rintro⟨vs,⟨xs,ys,rfl,rfl,xs2,ys2,rfl,⟨f,hE,rfl⟩,xs3,ys3,rfl,⟨g,hE',rfl⟩,h5⟩,rfl⟩;rw[show ys3=[] from h5];exact⟨f 0,g 0,by simp [range_succ],hE,hE'⟩
 ·rintro⟨x,y,rfl,ha,hb⟩;exact⟨[.bool s,x,y],⟨[.bool s],[x,y],rfl,rfl,[x],[y],rfl,⟨fun _=>x,ha,rfl⟩,[y],[],rfl,⟨fun _=>y,hb,rfl⟩,rfl⟩,rfl⟩
theorem rsign_q (x:Value) (r:Rat) (w:World) (hx:RQ w x r):Calls Tryz.prog 17 #[x] w (Go.Proofs.YtobfdjojhfpakaaGreatDoor.Val w (.int .i64 (ji r))):=by
 have hC:(C_sign r.num.natAbs r.den w).Ok:=jX (ce (cQ kd _) (ce (cQ kd _) (ce (jv _) (ce (jv _) js)))) rfl rfl;have hT:∀ t∈t_sign,t.Valid (C_sign r.num.natAbs r.den w):=ca (uo jg (pd rfl) (rv rfl)) (ca (e_min (pv rfl) pvl (rv rfl)) cc);have hx:uG w x (decide (r.num<0)) r.num.natAbs r.den:=hx;by_cases h:r.num<0
 ·rw[decide_eq_true h] at hx;refine(jH hC hT 17 Tryz.f17 [.agg [.lit (.bool true),.cls 0 1,.cls 1 1]] (.val (vp (ii (-1)))) 60 Tryz.func17 rfl rfl rfl (by kernel_rfl) [x] ⟨_,_,rfl,rl_isS.2 hx,rfl⟩).mono ?_;rintro e w' ⟨v,rfl,hv,hb⟩;rw[GJ hv];have:ji r=-1:=by unfold ji;rw[if_neg (by omega),if_pos h]
  exact⟨by rw[this],hb⟩
 ·rw[decide_eq_false h] at hx;refine(jH hC hT 17 Tryz.f17 [.agg [.lit (.bool false),.cls 0 1,.cls 1 1]] (.val (op 3)) 60 Tryz.func17 rfl rfl rfl (by kernel_rfl) [x] ⟨_,_,rfl,rl_isS.2 hx,rfl⟩).mono ?_;rintro e w' ⟨v,rfl,hv,hb⟩;rw[(kQ rfl).1 hv];refine⟨?_,hb⟩;congr 2;have:=kX (n:=r.num.natAbs);unfold ji;rw[if_neg h];by_cases h0:r.num=0
  ·rw[if_pos h0,h0];have:(digs (Int.natAbs 0)).length=0:=by rw[show Int.natAbs 0=0 from rfl,digs_zero];rfl
   rw[this];rfl
  ·rw[if_neg h0];have:0<(digs r.num.natAbs).length:=this.2 (by omega);split<;>omega
theorem ciY (r s:Rat):ji (r-s)=kO r s:=by
 have h1:(r-s).num=0↔r-s=0:=Rat.num_eq_zero;have h2:0<=(r-s).num↔0<=r-s:=Rat.num_nonneg;unfold ji kO;by_cases a:r<s
 ·have e1:¬ r-s=0:=by grind
  have e2:¬ 0<=r-s:=by grind
  have e3:¬ (r-s).num=0:=fun h=>e1 (h1.1 h);have e4:(r-s).num<0:=Int.not_le.1 (fun h=>e2 (h2.1 h));rw[if_neg e3,if_pos e4,if_pos a]
 ·rw[if_neg a];have e2:0<=r-s:=by grind
  have e4:¬ (r-s).num<0:=Int.not_lt.2 (h2.2 e2);by_cases b:s<r
  ·have e1:¬ r-s=0:=by grind
   rw[if_neg (fun h=>e1 (h1.1 h)),if_neg e4,if_pos b]
  ·have e1:r-s=0:=by grind
   rw[if_pos (h1.2 e1),if_neg b]
theorem rcmp_q (x y:Value) (r s:Rat) (k:Nat) (w:World) (hx:RQ w x r) (hy:RQ w y s) (z1:Siz r k) (z2:Siz s k) (hk:k<=10000):Calls Tryz.prog 72 #[x,y] w (Go.Proofs.YtobfdjojhfpakaaGreatDoor.Val w (.int .i64 (kO r s))):=by
 have hC:(mkC [3,3,3,1] [true,true,true,true] [39] 9 [clR r k,clR s k,clR (r-s) (k+k+1),clV (ii (ji (r-s)))] w).Ok:=jX (ce (ye kd _ _) (ce (ye kd _ _) (ce (ye kd _ _) (ce (jv _) js)))) rfl rfl;have hT:∀ t∈([⟨.call 123,[rq 0,rq 1],.val (rq 2)⟩,⟨.call 17,[rq 2],.val (op 3)⟩]:List Ent),t.Valid (mkC [3,3,3,1] [true,true,true,true] [39] 9 [clR r k,clR s k,clR (r-s) (k+k+1),clV (ii (ji (r-s)))] w):=by
  refine ca (e_rsub (pr rfl) (pr rfl) rfl (JJ (le_refl _) (by omega)) (JJ (by omega) (by decide))) (ca ⟨enters_of Tryz.func17 (by kernel_rfl) rfl,fun w vs hb hvs=>?_⟩ cc);obtain⟨v1,_,rfl,h4,rfl⟩:=hvs;refine(rsign_q v1 (r-s) w ((ur rfl).1 h4).1).mono ?_;rintro e w' ⟨rfl,hb'⟩;exact⟨_,rfl,(kQ rfl).2 rfl,hb'⟩
 refine(jH hC hT 72 Tryz.f72 [rq 0,rq 1] (.val (op 3)) 60 Tryz.func72 rfl rfl rfl (by kernel_rfl) [x,y] ⟨_,_,rfl,(ur rfl).2 ⟨hx,z1⟩,_,_,rfl,(ur rfl).2 ⟨hy,z2⟩,rfl⟩).mono ?_;rintro e w' ⟨v,rfl,hv,hb⟩;rw[(kQ rfl).1 hv,← ciY];exact⟨rfl,hb⟩
section
variable {csz:List Nat}{numc:List Bool}{okT:List Nat}{nt:Nat}{cl:List Cl}{w0:World}{w:World}{v:Value}{p1 p2 p3 p4:Pat}{res:cY}{c d c1 c2 c3 c4 c5 c6:Nat}{r s t r1 r2 r3 r4:Rat}{k k1 k2 k3 k4 k5 k6:Nat}
end
theorem riszero_q (x:Value) (r:Rat) (w:World) (hx:RQ w x r):Calls Tryz.prog 73 #[x] w (Go.Proofs.YtobfdjojhfpakaaGreatDoor.Val w (.bool (decide (r=0)))):=by
 have hC:(mkC [1,1,1,1] [true,false,false,true] [39] 7 [clV (.bool (decide (r.num<0))),clD (digs r.num.natAbs),clD (digs r.den),clV (ii ((digs r.num.natAbs).length:Int))] w).Ok:=jX (ce (CU _) (ce (cQ kd _) (ce (cQ kd _) (ce (jv _) js)))) rfl rfl;have h0:=kX (n:=r.num.natAbs);have h1:r.num=0↔r=0:=Rat.num_eq_zero;have hT:∀ b,decide (r=0)=b->∀ t∈([⟨.blt .len [37] 3,[op 1],.val (op 3)⟩,⟨.bin .eql 3,[op 3,vp (ii 0)],.val (vp (.bool b))⟩]:List Ent),t.Valid (mkC [1,1,1,1] [true,false,false,true] [39] 7 [clV (.bool (decide (r.num<0))),clD (digs r.num.natAbs),clD (digs r.den),clV (ii ((digs r.num.natAbs).length:Int))] w) :=
  fun b hb=>ca (uo jg (pd rfl) (rv rfl)) (ca (ZZ (pv rfl) pvl (by rw[← hb];congr 1;apply propext;rw[← h1];omega)) cc)
 cases hd:decide (r=0) with
 |true =>
  refine(jH hC (hT _ hd) 73 Tryz.f73 [rp 0 1 2] (.val (vp (.bool true))) 60 Tryz.func73 rfl rfl rfl (by kernel_rfl) [x] ⟨_,_,rfl,(KF rfl rfl rfl).2 hx,rfl⟩).mono ?_;rintro e w' ⟨v,rfl,hv,hb⟩;rw[GJ hv];exact⟨rfl,hb⟩
 |false =>
  refine(jH hC (hT _ hd) 73 Tryz.f73 [rp 0 1 2] (.val (vp (.bool false))) 60 Tryz.func73 rfl rfl rfl (by kernel_rfl) [x] ⟨_,_,rfl,(KF rfl rfl rfl).2 hx,rfl⟩).mono ?_;rintro e w' ⟨v,rfl,hv,hb⟩;rw[GJ hv];exact⟨rfl,hb⟩
section
variable {csz:List Nat}{numc:List Bool}{okT:List Nat}{nt:Nat}{cl:List Cl}{w0:World}{w:World}{v:Value}{p1 p2 p3 p4:Pat}{res:cY}{c d c1 c2 c3 c4 c5 c6:Nat}{r s t r1 r2 r3 r4:Rat}{k k1 k2 k3 k4 k5 k6:Nat}
end
end Sym
namespace Sym
def rl (s:Bool) (c d:Nat):Pat:=.agg [.lit (.bool s),.cls c 1,.cls d 1]
section
variable {csz:List Nat}{numc:List Bool}{okT:List Nat}{nt:Nat}{cl:List Cl}{w0:World}{w:World}{v z:Value}{p1 p2 p3 p4:Pat}{res:cY}{c d c1 c2 c3 c4 c5 c6:Nat}{r s t r1 r2 r3 r4:Rat}{k k1 k2 k3 k4 k5 k6:Nat}
theorem cbu {s:Bool}{a b:Nat}(h1:cl[c]?=some (clD (digs a))) (h2:cl[d]?=some (clD (digs b))):(rl s c d).is (mkC csz numc okT nt cl w0) w v↔uG w v s a b:=by
 constructor
 ·rintro⟨vs,⟨xs,ys,rfl,rfl,xs2,ys2,rfl,⟨f,hE,rfl⟩,xs3,ys3,rfl,⟨g,hE',rfl⟩,h5⟩,rfl⟩;rw[show ys3=[] from h5];simp only[mkC,h1] at hE;simp only[mkC,h2] at hE';exact⟨f 0,g 0,by simp [range_succ],hE,hE'⟩
 ·rintro⟨x,y,rfl,ha,hb⟩;refine⟨[.bool s,x,y],⟨[.bool s],[x,y],rfl,rfl,[x],[y],rfl,⟨fun _=>x,?_,rfl⟩,[y],[],rfl,⟨fun _=>y,?_,rfl⟩,rfl⟩,rfl⟩
  ·simp only[mkC,h1];exact ha
  ·simp only[mkC,h2];exact hb
theorem hd_un {o:Oper}{u:UnOp}{t:Nat}{xs:List Operand}(h:kA o=some (.un u t,xs)):∃ x,o.op=.unOp u t x/\xs=[x]:=by
 unfold kA at h;split at h<;>first
  |(rename_i h0;simp only[Option.some.injEq,Prod.mk.injEq,Hd.un.injEq,reduceCtorEq,false_and] at h;try (obtain⟨⟨rfl,rfl⟩,rfl⟩:=h;exact⟨_,h0,rfl⟩))
  |(split at h<;>simp at h)
  |simp at h
theorem e_un {u:UnOp}{t:Nat}{x:Value}(h1:PV csz numc okT nt cl w0 p1 x) (h3:RV csz numc okT nt cl w0 res z) (hr:∀ w,(Op.unary u x).run Tryz.prog w=.ok z w):V csz numc okT nt cl w0 (.un u t) [p1] res:=by
 intro w ρ oo xs ho hb hvs;obtain⟨a,hop,rfl⟩:=hd_un ho;obtain⟨v1,_,e1,h4,e2⟩:=hvs;obtain rfl:=h1 _ _ h4;subst e2;simp only[map_cons,List.map_nil,List.cons.injEq] at e1;obtain⟨ea,_⟩:=e1;refine⟨z,w,?_,h3 w,Below.refl _ _⟩;show (execOp ρ oo).run Tryz.prog w=_;simp only[execOp,hop,ea,run_bind,hr w,andThen_ok];rfl
theorem e_negi {t:Nat}{x u:Int}(hz:-x=u) (h1:PV csz numc okT nt cl w0 p1 (ii x)) (h3:RV csz numc okT nt cl w0 res (ii u)) (hr:-9223372036854775808<=u/\u<=9223372036854775807):V csz numc okT nt cl w0 (.un .neg t) [p1] res :=
 e_un h1 h3 (fun w=>by
  show Result.ok (Value.int .i64 (IntKind.i64.wrap (0-x))) w=_;rw[show 0-x=u by omega,show IntKind.i64.wrap u=u by rw[wrap_i64];omega])
theorem e_addu {t:Nat}{x y u:Int}(hz:x+y=u) (h1:PV csz numc okT nt cl w0 p1 (.int .u64 x)) (h2:PV csz numc okT nt cl w0 p2 (.int .u64 y)) (h3:RV csz numc okT nt cl w0 res (.int .u64 u)) (hr:0<=u/\u<=18446744073709551615):V csz numc okT nt cl w0 (.bin .add t) [p1,p2] res :=
 CW h1 h2 h3 (fun w=>by
  show Result.ok (Value.int .u64 (IntKind.u64.wrap (x+y))) w=_;rw[hz,show IntKind.u64.wrap u=u by rw[wrap_u64];omega])
end
theorem GM:digs 1=[1]:=by rw[digs_pos (by decide),show (1:Nat)/10000=0 from rfl,digs_zero]
theorem caZ {okT:List Nat}{B:Nat}(n:Int):(clV (.int .u64 n)).Ok okT B:=UY rfl
theorem YU {w:World}{v:Value}{i:Int}{s:Bool}(hs:s=decide (i<0)) (h:uG w v s i.natAbs 1):RQ w v (i:Rat):=by
 subst hs;exact h
theorem rint_q (i:Int) (h1:-9223372036854775808<=i) (h2:i<=9223372036854775807) (w:World):Calls Tryz.prog 61 #[.int .i64 i] w (RNew w (i:Rat)):=by
 by_cases hi:i<0
 ·have hC:(mkC [1,1,1,1,1,1,1] [true,true,true,true,true,false,false] [39] 18 [clV (ii i),clV (ii (i+1)),clV (ii (-(i+1))),clV (.int .u64 (-(i+1))),clV (.int .u64 ((i.natAbs:Nat):Int)),clD (digs i.natAbs),clD (digs 1)] w).Ok :=
   jX (ce (jv _) (ce (jv _) (ce (jv _) (ce (caZ _) (ce (caZ _) (ce (cQ kd _) (ce (cQ kd _) js))))))) rfl rfl
  have hT:∀ t∈([⟨.bin .lss 2,[op 0,vp (ii 0)],.val (vp (.bool true))⟩,⟨.bin .add 2,[op 0,vp (ii 1)],.val (op 1)⟩,⟨.un .neg 2,[op 1],.val (op 2)⟩,⟨.cv 2 29,[op 2],.val (op 3)⟩,
   ⟨.bin .add 29,[op 3,vp (.int .u64 1)],.val (op 4)⟩,⟨.call 115,[op 4],.val (op 5)⟩,⟨.bs 37 1,[vp (ii 1)],.val (op 6)⟩]:List Ent),t.Valid (mkC [1,1,1,1,1,1,1] [true,true,true,true,true,false,false] [39] 18 [clV (ii i),clV (ii (i+1)),clV (ii (-(i+1))),clV (.int .u64 (-(i+1))),clV (.int .u64 ((i.natAbs:Nat):Int)),clD (digs i.natAbs),clD (digs 1)] w) :=
   ca (yE (pv rfl) pvl (decide_eq_true hi)) (ca (uZ rfl (pv rfl) pvl (rv rfl) (by omega)) (ca (e_negi rfl (pv rfl) (rv rfl) (by omega)) (ca (e_cv (by kernel_rfl) (by kernel_rfl) (by kernel_rfl) (pv rfl) (rv rfl) (by rw[wrap_u64];omega))
    (ca (e_addu (by omega) (pv rfl) pvl (rv rfl) (by omega)) (ca (WS (by omega) (pv rfl) (rd rfl)) (ca (cgr (x:=1) pvl (rd (by rw[← GM];rfl))) cc))))))
  refine(jH hC hT 61 Tryz.f61 [op 0] (.val (rl true 5 6)) 60 Tryz.func61 rfl rfl rfl (by kernel_rfl) [.int .i64 i] ⟨_,_,rfl,(kQ rfl).2 rfl,rfl⟩).mono ?_;rintro e w' ⟨v,rfl,hv,hb⟩;exact⟨v,rfl,YU (by simp [hi]) ((cbu rfl rfl).1 hv),hb⟩
 ·have hC:(mkC [1,1,1,1] [true,true,false,false] [39] 18 [clV (ii i),clV (.int .u64 ((i.natAbs:Nat):Int)),clD (digs i.natAbs),clD (digs 1)] w).Ok :=
   jX (ce (jv _) (ce (caZ _) (ce (cQ kd _) (ce (cQ kd _) js)))) rfl rfl
  have ei:(i.natAbs:Int)=i:=by omega
  have hT:∀ t∈([⟨.bin .lss 2,[op 0,vp (ii 0)],.val (vp (.bool false))⟩,⟨.cv 2 29,[op 0],.val (op 1)⟩,
   ⟨.call 115,[op 1],.val (op 2)⟩,⟨.bs 37 1,[vp (ii 1)],.val (op 3)⟩]:List Ent),t.Valid (mkC [1,1,1,1] [true,true,false,false] [39] 18 [clV (ii i),clV (.int .u64 ((i.natAbs:Nat):Int)),clD (digs i.natAbs),clD (digs 1)] w) :=
   ca (yE (pv rfl) pvl (decide_eq_false hi)) (ca (e_cv (x:=i) (by kernel_rfl) (by kernel_rfl) (by kernel_rfl) (pv rfl) (by rw[← ei];exact rv rfl) (by rw[wrap_u64];omega))
    (ca (WS (by omega) (pv rfl) (rd rfl)) (ca (cgr (x:=1) pvl (rd (by rw[← GM];rfl))) cc)))
  refine(jH hC hT 61 Tryz.f61 [op 0] (.val (rl false 2 3)) 60 Tryz.func61 rfl rfl rfl (by kernel_rfl) [.int .i64 i] ⟨_,_,rfl,(kQ rfl).2 rfl,rfl⟩).mono ?_;rintro e w' ⟨v,rfl,hv,hb⟩;exact⟨v,rfl,YU (by simp [hi]) ((cbu rfl rfl).1 hv),hb⟩
section
variable {csz:List Nat}{numc:List Bool}{okT:List Nat}{nt:Nat}{cl:List Cl}{w0:World}{w:World}{v z:Value}{p1 p2 p3 p4:Pat}{res:cY}{c d c1 c2 c3 c4 c5 c6:Nat}{r s t r1 r2 r3 r4:Rat}{k k1 k2 k3 k4 k5 k6:Nat}
end
section
variable {csz:List Nat}{numc:List Bool}{okT:List Nat}{nt:Nat}{cl:List Cl}{w0:World}{w:World}{v z:Value}{p1 p2 p3 p4:Pat}{res:cY}{c d c1 c2 c3 c4 c5 c6:Nat}{r s t r1 r2 r3 r4:Rat}{k k1 k2 k3 k4 k5 k6:Nat}
theorem e_rint {i:Int}(h1:-9223372036854775808<=i) (h2:i<=9223372036854775807) (h3:cl[c3]?=some (clR (i:Rat) k3)) (hk:Zz 1 k3=true):V csz numc okT nt cl w0 (.call 61) [vp (ii i)] (.val (rq c3)):=by
 refine⟨enters_of Tryz.func61 (by kernel_rfl) rfl,fun w vs hb hvs=>?_⟩;obtain⟨v1,_,rfl,g4,rfl⟩:=hvs;obtain rfl:=zZ.1 g4;refine(rint_q i h1 h2 w).mono ?_;rintro e w' ⟨v,rfl,hv,hb'⟩;exact⟨v,rfl,(ur h3).2 ⟨hv,(ER i h1 h2).le (Jv hk).1⟩,hb'⟩
end
end Sym
end Go.Proofs.YtobfdjojhfpakaaGreatDoor
