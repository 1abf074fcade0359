/- Part 25. -/
import Derived.Test.YtokieocpdcngcaaGreatDoorZ24
set_option linter.all false
open Bool (and_eq_true)
open Go.IntKind (wrap_i64 wrap_u64)
open List (map_cons range_succ)
open Nat (le_refl)
open Go.Result (andThen_ok)
open Go.Sem (run_bind)

namespace Go.Proofs.YtokieocpdcngcaaGreatDoor
open Go Go.RowKit Go.Proofs Lim
open Go Go.RowKit Go.Proofs Lim
namespace Sym
theorem UM {n k:Nat}(h1:n<=k) (h2:k<=100000):Yt n k=true:=by
 simp only[Yt,and_eq_true];exact⟨Nat.ble_eq_true_of_le h1,Nat.ble_eq_true_of_le h2⟩
theorem rsub_q (x y:Value) (r s:Rat) (k:Nat) (w:World) (hx:RQ w x r) (hy:RQ w y s) (z1:Siz r k) (z2:Siz s k) (hk:k+k+1<=100000):Calls Tryz.prog 55 #[x,y] w (RNew w (r-s)):=by
 have hC:(mkC [3,3,3,3] [true,true,true,true] [74] 9 [clR r k,clR s k,clR (-s) k,clR (r+-s) (k+k+1)] w).Ok:=kC (cc (Co jN _ _) (cc (Co jN _ _) (cc (Co jN _ _) (cc (Co jN _ _) jr)))) rfl rfl;have hT:∀ t∈([⟨.call 89,[rq 1],.val (rq 2)⟩,⟨.call 57,[rq 0,rq 2],.val (rq 3)⟩]:List Ent),t.Valid (mkC [3,3,3,3] [true,true,true,true] [74] 9 [clR r k,clR s k,clR (-s) k,clR (r+-s) (k+k+1)] w) :=
  ca (e_rneg (pr rfl) rfl (UM (le_refl _) (by omega))) (ca (e_radd (pr rfl) (pr rfl) rfl (UM (le_refl _) hk)) ce)
 refine(kv hC hT 55 Tryz.f55 [rq 0,rq 1] (.val (rq 3)) 60 Tryz.func55 rfl rfl rfl (by kernel_rfl) [x,y] ⟨_,_,rfl,(Es rfl).2 ⟨hx,z1⟩,_,_,rfl,(Es rfl).2 ⟨hy,z2⟩,rfl⟩).mono ?_;rintro e w' ⟨v,rfl,hv,hb⟩;refine⟨v,rfl,?_,hb⟩;rw[Rat.sub_eq_add_neg];exact((Es rfl).1 hv).1
section
variable {csz:List Nat}{numc:List Bool}{okT:List Nat}{nt:Nat}{cl:List Cl}{w0:World}{w:World}{v:Value}{p1 p2 p3 p4:Pat}{res:cK}{c d c1 c2 c3 c4 c5 c6:Nat}{r s t r1 r2 r3 r4:Rat}{k k1 k2 k3 k4 k5 k6:Nat}
theorem e_rsub (h1:PR csz numc okT nt cl w0 p1 r k1) (h2:PR csz numc okT nt cl w0 p2 s k2) (h3:cl[c3]?=some (clR (r-s) k3)) (hk:Yt (k1+k2+1) k3=true) (hk':Yt k3 40000=true):V csz numc okT nt cl w0 (.call 55) [p1,p2] (.val (rq c3)):=by
 have hk:=GT hk;have hk':=GT hk';exact UP (enters_of Tryz.func55 (by kernel_rfl) rfl) h1 h2 h3 (fun z1 z2=>(z1.sub z2).le (by omega)) (fun W v1 v2 q1 z1 q2 z2=>rsub_q v1 v2 r s k3 W q1 q2 (z1.le (by omega)) (z2.le (by omega)) (by omega))
end
def t_sign:List Ent:=[⟨.blt .len [72] 3,[op 0],.val (op 2)⟩,⟨.blt .min [3,3] 3,[op 2,vp (ii 1)],.val (op 3)⟩]
abbrev cl_sign (a b:Nat):List Cl:=[clD (ci a),clD (ci b),clV (ii ((ci a).length:Int)),clV (ii (if (1:Int)<((ci a).length:Int) then 1 else ((ci a).length:Int)))]
noncomputable abbrev C_sign (a b:Nat) (w:World):Ctx:=mkC [1,1,1,1] [false,false,true,true] [74] 9 (cl_sign a b) w
theorem rl_isS {a b:Nat}{w0 w:World}{v:Value}{s:Bool}:(Pat.agg [.lit (.bool s),.cls 0 1,.cls 1 1]).is (C_sign a b w0) w v↔kJ w v s a b:=by
 constructor
 ·rintro⟨vs,⟨xs,ys,rfl,rfl,xs2,ys2,rfl,⟨f,hE,rfl⟩,xs3,ys3,rfl,⟨g,hE',rfl⟩,h5⟩,rfl⟩;rw[show ys3=[] from h5];exact⟨f 0,g 0,by simp [range_succ],hE,hE'⟩
 ·rintro⟨x,y,rfl,ha,hb⟩;exact⟨[.bool s,x,y],⟨[.bool s],[x,y],rfl,rfl,[x],[y],rfl,⟨fun _=>x,ha,rfl⟩,[y],[],rfl,⟨fun _=>y,hb,rfl⟩,rfl⟩,rfl⟩
theorem rsign_q (x:Value) (r:Rat) (w:World) (hx:RQ w x r):Calls Tryz.prog 54 #[x] w (Go.Proofs.YtokieocpdcngcaaGreatDoor.Val w (.int .i64 (zl r))):=by
 have hC:(C_sign r.num.natAbs r.den w).Ok:=kC (cc (cG jN _) (cc (cG jN _) (cc (jp _) (cc (jp _) jr)))) rfl rfl;have hT:∀ t∈t_sign,t.Valid (C_sign r.num.natAbs r.den w):=ca (uJ jg (pd rfl) (rv rfl)) (ca (e_min (pv rfl) pvl (rv rfl)) ce);have hx:kJ w x (decide (r.num<0)) r.num.natAbs r.den:=hx;by_cases h:r.num<0
 ·rw[decide_eq_true h] at hx;refine(kv hC hT 54 Tryz.f54 [.agg [.lit (.bool true),.cls 0 1,.cls 1 1]] (.val (vp (ii (-1)))) 60 Tryz.func54 rfl rfl rfl (by kernel_rfl) [x] ⟨_,_,rfl,rl_isS.2 hx,rfl⟩).mono ?_;rintro e w' ⟨v,rfl,hv,hb⟩;rw[val_of hv];have:zl r=-1:=by unfold zl;rw[if_neg (by omega),if_pos h]
  exact⟨by rw[this],hb⟩
 ·rw[decide_eq_false h] at hx;refine(kv hC hT 54 Tryz.f54 [.agg [.lit (.bool false),.cls 0 1,.cls 1 1]] (.val (op 3)) 60 Tryz.func54 rfl rfl rfl (by kernel_rfl) [x] ⟨_,_,rfl,rl_isS.2 hx,rfl⟩).mono ?_;rintro e w' ⟨v,rfl,hv,hb⟩;rw[(CS rfl).1 hv];refine⟨?_,hb⟩;congr 2;have:=zv (n:=r.num.natAbs);unfold zl;rw[if_neg h];by_cases h0:r.num=0
  ·rw[if_pos h0,h0];have:(ci (Int.natAbs 0)).length=0:=by rw[show Int.natAbs 0=0 from rfl,jb];rfl
   rw[this];rfl
  ·rw[if_neg h0];have:0<(ci r.num.natAbs).length:=this.2 (by omega);split<;>omega
theorem cha (r s:Rat):zl (r-s)=uu r s:=by
 have h1:(r-s).num=0↔r-s=0:=Rat.num_eq_zero;have h2:0<=(r-s).num↔0<=r-s:=Rat.num_nonneg;unfold zl uu;by_cases a:r<s
 ·have e1:¬ r-s=0:=by grind
  have e2:¬ 0<=r-s:=by grind
  have e3:¬ (r-s).num=0:=fun h=>e1 (h1.1 h);have e4:(r-s).num<0:=Int.not_le.1 (fun h=>e2 (h2.1 h));rw[if_neg e3,if_pos e4,if_pos a]
 ·rw[if_neg a];have e2:0<=r-s:=by grind
  have e4:¬ (r-s).num<0:=Int.not_lt.2 (h2.2 e2);by_cases b:s<r
  ·have e1:¬ r-s=0:=by grind
   rw[if_neg (fun h=>e1 (h1.1 h)),if_neg e4,if_pos b]
  ·have e1:r-s=0:=by grind
   rw[if_pos (h1.2 e1),if_neg b]
theorem rcmp_q (x y:Value) (r s:Rat) (k:Nat) (w:World) (hx:RQ w x r) (hy:RQ w y s) (z1:Siz r k) (z2:Siz s k) (hk:k<=10000):Calls Tryz.prog 21 #[x,y] w (Go.Proofs.YtokieocpdcngcaaGreatDoor.Val w (.int .i64 (uu r s))):=by
 have hC:(mkC [3,3,3,1] [true,true,true,true] [74] 9 [clR r k,clR s k,clR (r-s) (k+k+1),clV (ii (zl (r-s)))] w).Ok:=kC (cc (Co jN _ _) (cc (Co jN _ _) (cc (Co jN _ _) (cc (jp _) jr)))) rfl rfl;have hT:∀ t∈([⟨.call 55,[rq 0,rq 1],.val (rq 2)⟩,⟨.call 54,[rq 2],.val (op 3)⟩]:List Ent),t.Valid (mkC [3,3,3,1] [true,true,true,true] [74] 9 [clR r k,clR s k,clR (r-s) (k+k+1),clV (ii (zl (r-s)))] w):=by
  refine ca (e_rsub (pr rfl) (pr rfl) rfl (UM (le_refl _) (by omega)) (UM (by omega) (by decide))) (ca ⟨enters_of Tryz.func54 (by kernel_rfl) rfl,fun w vs hb hvs=>?_⟩ ce);obtain⟨v1,_,rfl,h4,rfl⟩:=hvs;refine(rsign_q v1 (r-s) w ((Es rfl).1 h4).1).mono ?_;rintro e w' ⟨rfl,hb'⟩;exact⟨_,rfl,(CS rfl).2 rfl,hb'⟩
 refine(kv hC hT 21 Tryz.f21 [rq 0,rq 1] (.val (op 3)) 60 Tryz.func21 rfl rfl rfl (by kernel_rfl) [x,y] ⟨_,_,rfl,(Es rfl).2 ⟨hx,z1⟩,_,_,rfl,(Es rfl).2 ⟨hy,z2⟩,rfl⟩).mono ?_;rintro e w' ⟨v,rfl,hv,hb⟩;rw[(CS rfl).1 hv,← cha];exact⟨rfl,hb⟩
section
variable {csz:List Nat}{numc:List Bool}{okT:List Nat}{nt:Nat}{cl:List Cl}{w0:World}{w:World}{v:Value}{p1 p2 p3 p4:Pat}{res:cK}{c d c1 c2 c3 c4 c5 c6:Nat}{r s t r1 r2 r3 r4:Rat}{k k1 k2 k3 k4 k5 k6:Nat}
end
section
variable {csz:List Nat}{numc:List Bool}{okT:List Nat}{nt:Nat}{cl:List Cl}{w0:World}{w:World}{v:Value}{p1 p2 p3 p4:Pat}{res:cK}{c d c1 c2 c3 c4 c5 c6:Nat}{r s t r1 r2 r3 r4:Rat}{k k1 k2 k3 k4 k5 k6:Nat}
end
end Sym
namespace Sym
def rl (s:Bool) (c d:Nat):Pat:=.agg [.lit (.bool s),.cls c 1,.cls d 1]
section
variable {csz:List Nat}{numc:List Bool}{okT:List Nat}{nt:Nat}{cl:List Cl}{w0:World}{w:World}{v z:Value}{p1 p2 p3 p4:Pat}{res:cK}{c d c1 c2 c3 c4 c5 c6:Nat}{r s t r1 r2 r3 r4:Rat}{k k1 k2 k3 k4 k5 k6:Nat}
theorem rl_is2 {s:Bool}{a b:Nat}(h1:cl[c]?=some (clD (ci a))) (h2:cl[d]?=some (clD (ci b))):(rl s c d).is (mkC csz numc okT nt cl w0) w v↔kJ w v s a b:=by
 constructor
 ·rintro⟨vs,⟨xs,ys,rfl,rfl,xs2,ys2,rfl,⟨f,hE,rfl⟩,xs3,ys3,rfl,⟨g,hE',rfl⟩,h5⟩,rfl⟩;rw[show ys3=[] from h5];simp only[mkC,h1] at hE;simp only[mkC,h2] at hE';exact⟨f 0,g 0,by simp [range_succ],hE,hE'⟩
 ·rintro⟨x,y,rfl,ha,hb⟩;refine⟨[.bool s,x,y],⟨[.bool s],[x,y],rfl,rfl,[x],[y],rfl,⟨fun _=>x,?_,rfl⟩,[y],[],rfl,⟨fun _=>y,?_,rfl⟩,rfl⟩,rfl⟩
  ·simp only[mkC,h1];exact ha
  ·simp only[mkC,h2];exact hb
theorem hd_un {o:Oper}{u:UnOp}{t:Nat}{xs:List Operand}(h:jU o=some (.un u t,xs)):∃ x,o.op=.unOp u t x/\xs=[x]:=by
 unfold jU at h;split at h<;>first
  |(rename_i h0;simp only[Option.some.injEq,Prod.mk.injEq,Hd.un.injEq,reduceCtorEq,false_and] at h;try (obtain⟨⟨rfl,rfl⟩,rfl⟩:=h;exact⟨_,h0,rfl⟩))
  |(split at h<;>simp at h)
  |simp at h
theorem e_un {u:UnOp}{t:Nat}{x:Value}(h1:PV csz numc okT nt cl w0 p1 x) (h3:RV csz numc okT nt cl w0 res z) (hr:∀ w,(Op.unary u x).run Tryz.prog w=.ok z w):V csz numc okT nt cl w0 (.un u t) [p1] res:=by
 intro w ρ oo xs ho hb hvs;obtain⟨a,hop,rfl⟩:=hd_un ho;obtain⟨v1,_,e1,h4,e2⟩:=hvs;obtain rfl:=h1 _ _ h4;subst e2;simp only[map_cons,List.map_nil,List.cons.injEq] at e1;obtain⟨ea,_⟩:=e1;refine⟨z,w,?_,h3 w,Below.refl _ _⟩;show (execOp ρ oo).run Tryz.prog w=_;simp only[execOp,hop,ea,run_bind,hr w,andThen_ok];rfl
theorem e_negi {t:Nat}{x u:Int}(hz:-x=u) (h1:PV csz numc okT nt cl w0 p1 (ii x)) (h3:RV csz numc okT nt cl w0 res (ii u)) (hr:-9223372036854775808<=u/\u<=9223372036854775807):V csz numc okT nt cl w0 (.un .neg t) [p1] res :=
 e_un h1 h3 (fun w=>by
  show Result.ok (Value.int .i64 (IntKind.i64.wrap (0-x))) w=_;rw[show 0-x=u by omega,show IntKind.i64.wrap u=u by rw[wrap_i64];omega])
theorem e_addu {t:Nat}{x y u:Int}(hz:x+y=u) (h1:PV csz numc okT nt cl w0 p1 (.int .u64 x)) (h2:PV csz numc okT nt cl w0 p2 (.int .u64 y)) (h3:RV csz numc okT nt cl w0 res (.int .u64 u)) (hr:0<=u/\u<=18446744073709551615):V csz numc okT nt cl w0 (.bin .add t) [p1,p2] res :=
 ES h1 h2 h3 (fun w=>by
  show Result.ok (Value.int .u64 (IntKind.u64.wrap (x+y))) w=_;rw[hz,show IntKind.u64.wrap u=u by rw[wrap_u64];omega])
end
theorem cbm:ci 1=[1]:=by rw[jF (by decide),show (1:Nat)/10000=0 from rfl,jb]
theorem cao {okT:List Nat}{B:Nat}(n:Int):(clV (.int .u64 n)).Ok okT B:=cdH rfl
theorem WD {w:World}{v:Value}{i:Int}{s:Bool}(hs:s=decide (i<0)) (h:kJ w v s i.natAbs 1):RQ w v (i:Rat):=by
 subst hs;exact h
theorem rint_q (i:Int) (h1:-9223372036854775808<=i) (h2:i<=9223372036854775807) (w:World):Calls Tryz.prog 56 #[.int .i64 i] w (RNew w (i:Rat)):=by
 by_cases hi:i<0
 ·have hC:(mkC [1,1,1,1,1,1,1] [true,true,true,true,true,false,false] [74] 18 [clV (ii i),clV (ii (i+1)),clV (ii (-(i+1))),clV (.int .u64 (-(i+1))),clV (.int .u64 ((i.natAbs:Nat):Int)),clD (ci i.natAbs),clD (ci 1)] w).Ok :=
   kC (cc (jp _) (cc (jp _) (cc (jp _) (cc (cao _) (cc (cao _) (cc (cG jN _) (cc (cG jN _) jr))))))) rfl rfl
  have hT:∀ t∈([⟨.bin .lss 2,[op 0,vp (ii 0)],.val (vp (.bool true))⟩,⟨.bin .add 2,[op 0,vp (ii 1)],.val (op 1)⟩,⟨.un .neg 2,[op 1],.val (op 2)⟩,⟨.cv 2 47,[op 2],.val (op 3)⟩,
   ⟨.bin .add 47,[op 3,vp (.int .u64 1)],.val (op 4)⟩,⟨.call 90,[op 4],.val (op 5)⟩,⟨.bs 72 1,[vp (ii 1)],.val (op 6)⟩]:List Ent),t.Valid (mkC [1,1,1,1,1,1,1] [true,true,true,true,true,false,false] [74] 18 [clV (ii i),clV (ii (i+1)),clV (ii (-(i+1))),clV (.int .u64 (-(i+1))),clV (.int .u64 ((i.natAbs:Nat):Int)),clD (ci i.natAbs),clD (ci 1)] w) :=
   ca (Et (pv rfl) pvl (decide_eq_true hi)) (ca (Cb rfl (pv rfl) pvl (rv rfl) (by omega)) (ca (e_negi rfl (pv rfl) (rv rfl) (by omega)) (ca (e_cv (by kernel_rfl) (by kernel_rfl) (by kernel_rfl) (pv rfl) (rv rfl) (by rw[wrap_u64];omega))
    (ca (e_addu (by omega) (pv rfl) pvl (rv rfl) (by omega)) (ca (UO (by omega) (pv rfl) (rd rfl)) (ca (e_bs1 (x:=1) pvl (rd (by rw[← cbm];rfl))) ce))))))
  refine(kv hC hT 56 Tryz.f56 [op 0] (.val (rl true 5 6)) 60 Tryz.func56 rfl rfl rfl (by kernel_rfl) [.int .i64 i] ⟨_,_,rfl,(CS rfl).2 rfl,rfl⟩).mono ?_;rintro e w' ⟨v,rfl,hv,hb⟩;exact⟨v,rfl,WD (by simp [hi]) ((rl_is2 rfl rfl).1 hv),hb⟩
 ·have hC:(mkC [1,1,1,1] [true,true,false,false] [74] 18 [clV (ii i),clV (.int .u64 ((i.natAbs:Nat):Int)),clD (ci i.natAbs),clD (ci 1)] w).Ok :=
   kC (cc (jp _) (cc (cao _) (cc (cG jN _) (cc (cG jN _) jr)))) rfl rfl
  have ei:(i.natAbs:Int)=i:=by omega
  have hT:∀ t∈([⟨.bin .lss 2,[op 0,vp (ii 0)],.val (vp (.bool false))⟩,⟨.cv 2 47,[op 0],.val (op 1)⟩,
   ⟨.call 90,[op 1],.val (op 2)⟩,⟨.bs 72 1,[vp (ii 1)],.val (op 3)⟩]:List Ent),t.Valid (mkC [1,1,1,1] [true,true,false,false] [74] 18 [clV (ii i),clV (.int .u64 ((i.natAbs:Nat):Int)),clD (ci i.natAbs),clD (ci 1)] w) :=
   ca (Et (pv rfl) pvl (decide_eq_false hi)) (ca (e_cv (x:=i) (by kernel_rfl) (by kernel_rfl) (by kernel_rfl) (pv rfl) (by rw[← ei];exact rv rfl) (by rw[wrap_u64];omega))
    (ca (UO (by omega) (pv rfl) (rd rfl)) (ca (e_bs1 (x:=1) pvl (rd (by rw[← cbm];rfl))) ce)))
  refine(kv hC hT 56 Tryz.f56 [op 0] (.val (rl false 2 3)) 60 Tryz.func56 rfl rfl rfl (by kernel_rfl) [.int .i64 i] ⟨_,_,rfl,(CS rfl).2 rfl,rfl⟩).mono ?_;rintro e w' ⟨v,rfl,hv,hb⟩;exact⟨v,rfl,WD (by simp [hi]) ((rl_is2 rfl rfl).1 hv),hb⟩
section
variable {csz:List Nat}{numc:List Bool}{okT:List Nat}{nt:Nat}{cl:List Cl}{w0:World}{w:World}{v z:Value}{p1 p2 p3 p4:Pat}{res:cK}{c d c1 c2 c3 c4 c5 c6:Nat}{r s t r1 r2 r3 r4:Rat}{k k1 k2 k3 k4 k5 k6:Nat}
end
theorem rfrac_q (i j:Int) (h1:-9223372036854775808<=i) (h2:i<=9223372036854775807) (h3:-9223372036854775808<=j) (h4:j<=9223372036854775807) (h0:j≠0) (w:World):Calls Tryz.prog 53 #[.int .i64 i,.int .i64 j] w (RNew w ((i:Rat)/(j:Rat))):=by
 have hC:(mkC [1,1,3,3,3] [true,true,true,true,true] [74] 10 [clV (ii i),clV (ii j),clR (i:Rat) 1,clR (j:Rat) 1,clR ((i:Rat)/(j:Rat)) 2] w).Ok:=kC (cc (jp _) (cc (jp _) (cc (Co jN _ _) (cc (Co jN _ _) (cc (Co jN _ _) jr))))) rfl rfl;have hT:∀ t∈([⟨.call 56,[op 0],.val (rq 2)⟩,⟨.call 56,[op 1],.val (rq 3)⟩,⟨.call 88,[rq 2,rq 3],.val (rq 4)⟩]:List Ent),t.Valid (mkC [1,1,3,3,3] [true,true,true,true,true] [74] 10 [clV (ii i),clV (ii j),clR (i:Rat) 1,clR (j:Rat) 1,clR ((i:Rat)/(j:Rat)) 2] w):=by
  refine ca ⟨enters_of Tryz.func56 (by kernel_rfl) rfl,fun w vs hb hvs=>?_⟩ (ca ⟨enters_of Tryz.func56 (by kernel_rfl) rfl,fun w vs hb hvs=>?_⟩ (ca (e_rdiv (by exact h0) (pr rfl) (pr rfl) rfl (by decide)) ce))
  ·obtain⟨v1,_,rfl,g4,rfl⟩:=hvs;obtain rfl:=(CS (x:=ii i) rfl).1 g4;refine(rint_q i h1 h2 w).mono ?_;rintro e w' ⟨v,rfl,hv,hb'⟩;exact⟨v,rfl,(Es rfl).2 ⟨hv,yT i h1 h2⟩,hb'⟩
  ·obtain⟨v1,_,rfl,g4,rfl⟩:=hvs;obtain rfl:=(CS (x:=ii j) rfl).1 g4;refine(rint_q j h3 h4 w).mono ?_;rintro e w' ⟨v,rfl,hv,hb'⟩;exact⟨v,rfl,(Es rfl).2 ⟨hv,yT j h3 h4⟩,hb'⟩
 refine(kv hC hT 53 Tryz.f53 [op 0,op 1] (.val (rq 4)) 60 Tryz.func53 rfl rfl rfl (by kernel_rfl) [.int .i64 i,.int .i64 j] ⟨_,_,rfl,(CS rfl).2 rfl,_,_,rfl,(CS rfl).2 rfl,rfl⟩).mono ?_;rintro e w' ⟨v,rfl,hv,hb⟩;exact⟨v,rfl,((Es rfl).1 hv).1,hb⟩
section
variable {csz:List Nat}{numc:List Bool}{okT:List Nat}{nt:Nat}{cl:List Cl}{w0:World}{w:World}{v z:Value}{p1 p2 p3 p4:Pat}{res:cK}{c d c1 c2 c3 c4 c5 c6:Nat}{r s t r1 r2 r3 r4:Rat}{k k1 k2 k3 k4 k5 k6:Nat}
end
end Sym
end Go.Proofs.YtokieocpdcngcaaGreatDoor
