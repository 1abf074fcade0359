/- Part 23. -/
import Derived.Test.YtokieocpdcngcabGreatDoorV22
set_option linter.all false
open Bool (and_eq_true)
open Go.IntKind (wrap_i64 wrap_u64)
open List (map_cons range_succ)
open Nat (le_refl)
open Go.Result (andThen_ok)
open Go.Sem (run_bind)

namespace Go.Proofs.YtokieocpdcngcabGreatDoor
open Go Go.RowKit Go.Proofs Lim
theorem sign_eq (r:Rat):kG r=if r<0 then -1 else if 0<r then 1 else 0:=by
 unfold kG;have h:r.num=0↔r=0:=Rat.num_eq_zero;have h2:0<=r.num↔0<=r:=Rat.num_nonneg;have h3:r.num<0↔r<0:=by rw[← Int.not_le,h2,Rat.not_le]
 by_cases e:r=0
 ·subst e;decide+kernel
 ·rw[if_neg (fun k=>e (h.1 k))];by_cases k:r<0
  ·rw[if_pos (h3.2 k),if_pos k]
  ·rw[if_neg (fun j=>k (h3.1 j)),if_neg k,if_pos (by grind)]
theorem cmp_lt {x y:Rat}:jn x y<0↔x<y:=by unfold jn;grind
namespace Sym
theorem JF {n k:Nat}(h1:n<=k) (h2:k<=100000):ZY n k=true:=by
 simp only[ZY,and_eq_true];exact⟨Nat.ble_eq_true_of_le h1,Nat.ble_eq_true_of_le h2⟩
theorem rsub_q (x y:Value) (r s:Rat) (k:Nat) (w:World) (hx:RQ w x r) (hy:RQ w y s) (z1:Siz r k) (z2:Siz s k) (hk:k+k+1<=100000):Calls Tryz.prog 108 #[x,y] w (RNew w (r-s)):=by
 have hC:(mkC [3,3,3,3] [true,true,true,true] [40] 9 [clR r k,clR s k,clR (-s) k,clR (r+-s) (k+k+1)] w).Ok:=jY (cg (uY ke _ _) (cg (uY ke _ _) (cg (uY ke _ _) (cg (uY ke _ _) jp)))) rfl rfl;have hT:∀ t∈([⟨.call 157,[rq 1],.val (rq 2)⟩,⟨.call 79,[rq 0,rq 2],.val (rq 3)⟩]:List Ent),t.Valid (mkC [3,3,3,3] [true,true,true,true] [40] 9 [clR r k,clR s k,clR (-s) k,clR (r+-s) (k+k+1)] w) :=
  ca (e_rneg (pr rfl) rfl (JF (le_refl _) (by omega))) (ca (e_radd (pr rfl) (pr rfl) rfl (JF (le_refl _) hk)) ce)
 refine(jI hC hT 108 Tryz.f108 [rq 0,rq 1] (.val (rq 3)) 60 Tryz.func108 rfl rfl rfl (by kernel_rfl) [x,y] ⟨_,_,rfl,(uf rfl).2 ⟨hx,z1⟩,_,_,rfl,(uf rfl).2 ⟨hy,z2⟩,rfl⟩).mono ?_;rintro e w' ⟨v,rfl,hv,hb⟩;refine⟨v,rfl,?_,hb⟩;rw[Rat.sub_eq_add_neg];exact((uf rfl).1 hv).1
section
variable {csz:List Nat}{numc:List Bool}{okT:List Nat}{nt:Nat}{cl:List Cl}{w0:World}{w:World}{v:Value}{p1 p2 p3 p4:Pat}{res:cL}{c d c1 c2 c3 c4 c5 c6:Nat}{r s t r1 r2 r3 r4:Rat}{k k1 k2 k3 k4 k5 k6:Nat}
theorem e_rsub (h1:PR csz numc okT nt cl w0 p1 r k1) (h2:PR csz numc okT nt cl w0 p2 s k2) (h3:cl[c3]?=some (clR (r-s) k3)) (hk:ZY (k1+k2+1) k3=true) (hk':ZY k3 40000=true):V csz numc okT nt cl w0 (.call 108) [p1,p2] (.val (rq c3)):=by
 have hk:=JJ hk;have hk':=JJ hk';exact cgL (enters_of Tryz.func108 (by kernel_rfl) rfl) h1 h2 h3 (fun z1 z2=>(z1.sub z2).le (by omega)) (fun W v1 v2 q1 z1 q2 z2=>rsub_q v1 v2 r s k3 W q1 q2 (z1.le (by omega)) (z2.le (by omega)) (by omega))
end
def t_sign:List Ent:=[⟨.blt .len [38] 3,[op 0],.val (op 2)⟩,⟨.blt .min [3,3] 3,[op 2,vp (ii 1)],.val (op 3)⟩]
abbrev cl_sign (a b:Nat):List Cl:=[clD (digs a),clD (digs b),clV (ii ((digs a).length:Int)),clV (ii (if (1:Int)<((digs a).length:Int) then 1 else ((digs a).length:Int)))]
noncomputable abbrev C_sign (a b:Nat) (w:World):Ctx:=mkC [1,1,1,1] [false,false,true,true] [40] 9 (cl_sign a b) w
theorem rl_isS {a b:Nat}{w0 w:World}{v:Value}{s:Bool}:(Pat.agg [.lit (.bool s),.cls 0 1,.cls 1 1]).is (C_sign a b w0) w v↔uy w v s a b:=by
 constructor
 ·rintro⟨vs,⟨xs,ys,rfl,rfl,xs2,ys2,rfl,⟨f,hE,rfl⟩,xs3,ys3,rfl,⟨g,hE',rfl⟩,h5⟩,rfl⟩;rw[show ys3=[] from h5];exact⟨f 0,g 0,by simp [range_succ],hE,hE'⟩
 ·rintro⟨x,y,rfl,ha,hb⟩;exact⟨[.bool s,x,y],⟨[.bool s],[x,y],rfl,rfl,[x],[y],rfl,⟨fun _=>x,ha,rfl⟩,[y],[],rfl,⟨fun _=>y,hb,rfl⟩,rfl⟩,rfl⟩
theorem rsign_q (x:Value) (r:Rat) (w:World) (hx:RQ w x r):Calls Tryz.prog 9 #[x] w (Go.Proofs.YtokieocpdcngcabGreatDoor.Val w (.int .i64 (kG r))):=by
 have hC:(C_sign r.num.natAbs r.den w).Ok:=jY (cg (cO ke _) (cg (cO ke _) (cg (jv _) (cg (jv _) jp)))) rfl rfl;have hT:∀ t∈t_sign,t.Valid (C_sign r.num.natAbs r.den w):=ca (um jf (pd rfl) (rv rfl)) (ca (e_min (pv rfl) pvl (rv rfl)) ce);have hx:uy w x (decide (r.num<0)) r.num.natAbs r.den:=hx;by_cases h:r.num<0
 ·rw[decide_eq_true h] at hx;refine(jI hC hT 9 Tryz.f9 [.agg [.lit (.bool true),.cls 0 1,.cls 1 1]] (.val (vp (ii (-1)))) 60 Tryz.func9 rfl rfl rfl (by kernel_rfl) [x] ⟨_,_,rfl,rl_isS.2 hx,rfl⟩).mono ?_;rintro e w' ⟨v,rfl,hv,hb⟩;rw[Wr hv];have:kG r=-1:=by unfold kG;rw[if_neg (by omega),if_pos h]
  exact⟨by rw[this],hb⟩
 ·rw[decide_eq_false h] at hx;refine(jI hC hT 9 Tryz.f9 [.agg [.lit (.bool false),.cls 0 1,.cls 1 1]] (.val (op 3)) 60 Tryz.func9 rfl rfl rfl (by kernel_rfl) [x] ⟨_,_,rfl,rl_isS.2 hx,rfl⟩).mono ?_;rintro e w' ⟨v,rfl,hv,hb⟩;rw[(kN rfl).1 hv];refine⟨?_,hb⟩;congr 2;have:=ul (n:=r.num.natAbs);unfold kG;rw[if_neg h];by_cases h0:r.num=0
  ·rw[if_pos h0,h0];have:(digs (Int.natAbs 0)).length=0:=by rw[show Int.natAbs 0=0 from rfl,digs_zero];rfl
   rw[this];rfl
  ·rw[if_neg h0];have:0<(digs r.num.natAbs).length:=this.2 (by omega);split<;>omega
theorem cjr (r s:Rat):kG (r-s)=jn r s:=by
 have h1:(r-s).num=0↔r-s=0:=Rat.num_eq_zero;have h2:0<=(r-s).num↔0<=r-s:=Rat.num_nonneg;unfold kG jn;by_cases a:r<s
 ·have e1:¬ r-s=0:=by grind
  have e2:¬ 0<=r-s:=by grind
  have e3:¬ (r-s).num=0:=fun h=>e1 (h1.1 h);have e4:(r-s).num<0:=Int.not_le.1 (fun h=>e2 (h2.1 h));rw[if_neg e3,if_pos e4,if_pos a]
 ·rw[if_neg a];have e2:0<=r-s:=by grind
  have e4:¬ (r-s).num<0:=Int.not_lt.2 (h2.2 e2);by_cases b:s<r
  ·have e1:¬ r-s=0:=by grind
   rw[if_neg (fun h=>e1 (h1.1 h)),if_neg e4,if_pos b]
  ·have e1:r-s=0:=by grind
   rw[if_pos (h1.2 e1),if_neg b]
theorem rcmp_q (x y:Value) (r s:Rat) (k:Nat) (w:World) (hx:RQ w x r) (hy:RQ w y s) (z1:Siz r k) (z2:Siz s k) (hk:k<=10000):Calls Tryz.prog 65 #[x,y] w (Go.Proofs.YtokieocpdcngcabGreatDoor.Val w (.int .i64 (jn r s))):=by
 have hC:(mkC [3,3,3,1] [true,true,true,true] [40] 9 [clR r k,clR s k,clR (r-s) (k+k+1),clV (ii (kG (r-s)))] w).Ok:=jY (cg (uY ke _ _) (cg (uY ke _ _) (cg (uY ke _ _) (cg (jv _) jp)))) rfl rfl;have hT:∀ t∈([⟨.call 108,[rq 0,rq 1],.val (rq 2)⟩,⟨.call 9,[rq 2],.val (op 3)⟩]:List Ent),t.Valid (mkC [3,3,3,1] [true,true,true,true] [40] 9 [clR r k,clR s k,clR (r-s) (k+k+1),clV (ii (kG (r-s)))] w):=by
  refine ca (e_rsub (pr rfl) (pr rfl) rfl (JF (le_refl _) (by omega)) (JF (by omega) (by decide))) (ca ⟨enters_of Tryz.func9 (by kernel_rfl) rfl,fun w vs hb hvs=>?_⟩ ce);obtain⟨v1,_,rfl,h4,rfl⟩:=hvs;refine(rsign_q v1 (r-s) w ((uf rfl).1 h4).1).mono ?_;rintro e w' ⟨rfl,hb'⟩;exact⟨_,rfl,(kN rfl).2 rfl,hb'⟩
 refine(jI hC hT 65 Tryz.f65 [rq 0,rq 1] (.val (op 3)) 60 Tryz.func65 rfl rfl rfl (by kernel_rfl) [x,y] ⟨_,_,rfl,(uf rfl).2 ⟨hx,z1⟩,_,_,rfl,(uf rfl).2 ⟨hy,z2⟩,rfl⟩).mono ?_;rintro e w' ⟨v,rfl,hv,hb⟩;rw[(kN rfl).1 hv,← cjr];exact⟨rfl,hb⟩
section
variable {csz:List Nat}{numc:List Bool}{okT:List Nat}{nt:Nat}{cl:List Cl}{w0:World}{w:World}{v:Value}{p1 p2 p3 p4:Pat}{res:cL}{c d c1 c2 c3 c4 c5 c6:Nat}{r s t r1 r2 r3 r4:Rat}{k k1 k2 k3 k4 k5 k6:Nat}
theorem e_rcmp {x:Int}(h1:PR csz numc okT nt cl w0 p1 r k1) (h2:PR csz numc okT nt cl w0 p2 s k2) (hk:ZY (k1+k2) 10000=true) (h:jn r s=x):V csz numc okT nt cl w0 (.call 65) [p1,p2] (.val (vp (.int .i64 x))):=by
 subst h;have hk:=JJ hk;exact ent_rrv (enters_of Tryz.func65 (by kernel_rfl) rfl) h1 h2 (fun W v1 v2 q1 z1 q2 z2=>rcmp_q v1 v2 r s (k1+k2) W q1 q2 (z1.le (by omega)) (z2.le (by omega)) (by omega))
end
theorem Yu (r s:Rat):(jn r s=-1/\r<s)\/(jn r s=0/\r=s)\/(jn r s=1/\s<r):=by
 unfold jn;by_cases a:r<s
 ·exact .inl ⟨if_pos a,a⟩
 ·by_cases b:s<r
  ·exact .inr (.inr ⟨by rw[if_neg a,if_pos b],b⟩)
  ·exact .inr (.inl ⟨by rw[if_neg a,if_neg b],by grind⟩)
def minQ (r s:Rat):Rat:=if r<=s then r else s
def maxQ (r s:Rat):Rat:=if s<=r then r else s
theorem rmin_q (x y:Value) (r s:Rat) (k:Nat) (w:World) (hx:RQ w x r) (hy:RQ w y s) (z1:Siz r k) (z2:Siz s k) (hk:k<=5000):Calls Tryz.prog 23 #[x,y] w (RNew w (minQ r s)):=by
 have hC:(mkC [3,3] [true,true] [40] 11 [clR r k,clR s k] w).Ok:=jY (cg (uY ke _ _) (cg (uY ke _ _) jp)) rfl rfl;have hT:∀ i,jn r s=i->∀ t∈([⟨.call 65,[rq 0,rq 1],.val (vp (ii i))⟩]:List Ent),t.Valid (mkC [3,3] [true,true] [40] 11 [clR r k,clR s k] w):=fun i hi=>ca (e_rcmp (pr rfl) (pr rfl) (JF (by omega) (by decide)) hi) ce;have hv:cK (mkC [3,3] [true,true] [40] 11 [clR r k,clR s k] w) w [rq 0,rq 1] [x,y]:=⟨_,_,rfl,(uf rfl).2 ⟨hx,z1⟩,_,_,rfl,(uf rfl).2 ⟨hy,z2⟩,rfl⟩;unfold minQ;rcases Yu r s with⟨h,g⟩|⟨h,g⟩|⟨h,g⟩
 ·rw[if_pos (by grind)];refine(jI hC (hT _ h) 23 Tryz.f23 [rq 0,rq 1] (.val (rq 0)) 60 Tryz.func23 rfl rfl rfl (by kernel_rfl) [x,y] hv).mono ?_;rintro e w' ⟨v,rfl,hv,hb⟩;exact⟨v,rfl,((uf rfl).1 hv).1,hb⟩
 ·rw[if_pos (by grind)];refine(jI hC (hT _ h) 23 Tryz.f23 [rq 0,rq 1] (.val (rq 0)) 60 Tryz.func23 rfl rfl rfl (by kernel_rfl) [x,y] hv).mono ?_;rintro e w' ⟨v,rfl,hv,hb⟩;exact⟨v,rfl,((uf rfl).1 hv).1,hb⟩
 ·rw[if_neg (by grind)];refine(jI hC (hT _ h) 23 Tryz.f23 [rq 0,rq 1] (.val (rq 1)) 60 Tryz.func23 rfl rfl rfl (by kernel_rfl) [x,y] hv).mono ?_;rintro e w' ⟨v,rfl,hv,hb⟩;exact⟨v,rfl,((uf rfl).1 hv).1,hb⟩
theorem rmax_q (x y:Value) (r s:Rat) (k:Nat) (w:World) (hx:RQ w x r) (hy:RQ w y s) (z1:Siz r k) (z2:Siz s k) (hk:k<=5000):Calls Tryz.prog 24 #[x,y] w (RNew w (maxQ r s)):=by
 have hC:(mkC [3,3] [true,true] [40] 11 [clR r k,clR s k] w).Ok:=jY (cg (uY ke _ _) (cg (uY ke _ _) jp)) rfl rfl;have hT:∀ i,jn r s=i->∀ t∈([⟨.call 65,[rq 0,rq 1],.val (vp (ii i))⟩]:List Ent),t.Valid (mkC [3,3] [true,true] [40] 11 [clR r k,clR s k] w):=fun i hi=>ca (e_rcmp (pr rfl) (pr rfl) (JF (by omega) (by decide)) hi) ce;have hv:cK (mkC [3,3] [true,true] [40] 11 [clR r k,clR s k] w) w [rq 0,rq 1] [x,y]:=⟨_,_,rfl,(uf rfl).2 ⟨hx,z1⟩,_,_,rfl,(uf rfl).2 ⟨hy,z2⟩,rfl⟩;unfold maxQ;rcases Yu r s with⟨h,g⟩|⟨h,g⟩|⟨h,g⟩
 ·rw[if_neg (by grind)];refine(jI hC (hT _ h) 24 Tryz.f24 [rq 0,rq 1] (.val (rq 1)) 60 Tryz.func24 rfl rfl rfl (by kernel_rfl) [x,y] hv).mono ?_;rintro e w' ⟨v,rfl,hv,hb⟩;exact⟨v,rfl,((uf rfl).1 hv).1,hb⟩
 ·rw[if_pos (by grind)];refine(jI hC (hT _ h) 24 Tryz.f24 [rq 0,rq 1] (.val (rq 0)) 60 Tryz.func24 rfl rfl rfl (by kernel_rfl) [x,y] hv).mono ?_;rintro e w' ⟨v,rfl,hv,hb⟩;exact⟨v,rfl,((uf rfl).1 hv).1,hb⟩
 ·rw[if_pos (by grind)];refine(jI hC (hT _ h) 24 Tryz.f24 [rq 0,rq 1] (.val (rq 0)) 60 Tryz.func24 rfl rfl rfl (by kernel_rfl) [x,y] hv).mono ?_;rintro e w' ⟨v,rfl,hv,hb⟩;exact⟨v,rfl,((uf rfl).1 hv).1,hb⟩
section
variable {csz:List Nat}{numc:List Bool}{okT:List Nat}{nt:Nat}{cl:List Cl}{w0:World}{w:World}{v:Value}{p1 p2 p3 p4:Pat}{res:cL}{c d c1 c2 c3 c4 c5 c6:Nat}{r s t r1 r2 r3 r4:Rat}{k k1 k2 k3 k4 k5 k6:Nat}
theorem minQ_siz (z1:Siz r k) (z2:Siz s k):Siz (minQ r s) k:=by unfold minQ;split<;>assumption
theorem maxQ_siz (z1:Siz r k) (z2:Siz s k):Siz (maxQ r s) k:=by unfold maxQ;split<;>assumption
end
end Sym
namespace Sym
def rl (s:Bool) (c d:Nat):Pat:=.agg [.lit (.bool s),.cls c 1,.cls d 1]
section
variable {csz:List Nat}{numc:List Bool}{okT:List Nat}{nt:Nat}{cl:List Cl}{w0:World}{w:World}{v z:Value}{p1 p2 p3 p4:Pat}{res:cL}{c d c1 c2 c3 c4 c5 c6:Nat}{r s t r1 r2 r3 r4:Rat}{k k1 k2 k3 k4 k5 k6:Nat}
theorem ccb {s:Bool}{a b:Nat}(h1:cl[c]?=some (clD (digs a))) (h2:cl[d]?=some (clD (digs b))):(rl s c d).is (mkC csz numc okT nt cl w0) w v↔uy w v s a b:=by
 constructor
 ·rintro⟨vs,⟨xs,ys,rfl,rfl,xs2,ys2,rfl,⟨f,hE,rfl⟩,xs3,ys3,rfl,⟨g,hE',rfl⟩,h5⟩,rfl⟩;rw[show ys3=[] from h5];simp only[mkC,h1] at hE;simp only[mkC,h2] at hE';exact⟨f 0,g 0,by simp [range_succ],hE,hE'⟩
 ·rintro⟨x,y,rfl,ha,hb⟩;refine⟨[.bool s,x,y],⟨[.bool s],[x,y],rfl,rfl,[x],[y],rfl,⟨fun _=>x,?_,rfl⟩,[y],[],rfl,⟨fun _=>y,?_,rfl⟩,rfl⟩,rfl⟩
  ·simp only[mkC,h1];exact ha
  ·simp only[mkC,h2];exact hb
theorem hd_un {o:Oper}{u:UnOp}{t:Nat}{xs:List Operand}(h:kq o=some (.un u t,xs)):∃ x,o.op=.unOp u t x/\xs=[x]:=by
 unfold kq at h;split at h<;>first
  |(rename_i h0;simp only[Option.some.injEq,Prod.mk.injEq,Hd.un.injEq,reduceCtorEq,false_and] at h;try (obtain⟨⟨rfl,rfl⟩,rfl⟩:=h;exact⟨_,h0,rfl⟩))
  |(split at h<;>simp at h)
  |simp at h
theorem e_un {u:UnOp}{t:Nat}{x:Value}(h1:PV csz numc okT nt cl w0 p1 x) (h3:RV csz numc okT nt cl w0 res z) (hr:∀ w,(Op.unary u x).run Tryz.prog w=.ok z w):V csz numc okT nt cl w0 (.un u t) [p1] res:=by
 intro w ρ oo xs ho hb hvs;obtain⟨a,hop,rfl⟩:=hd_un ho;obtain⟨v1,_,e1,h4,e2⟩:=hvs;obtain rfl:=h1 _ _ h4;subst e2;simp only[map_cons,List.map_nil,List.cons.injEq] at e1;obtain⟨ea,_⟩:=e1;refine⟨z,w,?_,h3 w,Below.refl _ _⟩;show (execOp ρ oo).run Tryz.prog w=_;simp only[execOp,hop,ea,run_bind,hr w,andThen_ok];rfl
theorem e_negi {t:Nat}{x u:Int}(hz:-x=u) (h1:PV csz numc okT nt cl w0 p1 (ii x)) (h3:RV csz numc okT nt cl w0 res (ii u)) (hr:-9223372036854775808<=u/\u<=9223372036854775807):V csz numc okT nt cl w0 (.un .neg t) [p1] res :=
 e_un h1 h3 (fun w=>by
  show Result.ok (Value.int .i64 (IntKind.i64.wrap (0-x))) w=_;rw[show 0-x=u by omega,show IntKind.i64.wrap u=u by rw[wrap_i64];omega])
theorem e_addu {t:Nat}{x y u:Int}(hz:x+y=u) (h1:PV csz numc okT nt cl w0 p1 (.int .u64 x)) (h2:PV csz numc okT nt cl w0 p2 (.int .u64 y)) (h3:RV csz numc okT nt cl w0 res (.int .u64 u)) (hr:0<=u/\u<=18446744073709551615):V csz numc okT nt cl w0 (.bin .add t) [p1,p2] res :=
 Ee h1 h2 h3 (fun w=>by
  show Result.ok (Value.int .u64 (IntKind.u64.wrap (x+y))) w=_;rw[hz,show IntKind.u64.wrap u=u by rw[wrap_u64];omega])
end
theorem GE:digs 1=[1]:=by rw[digs_pos (by decide),show (1:Nat)/10000=0 from rfl,digs_zero]
theorem ccD {okT:List Nat}{B:Nat}(n:Int):(clV (.int .u64 n)).Ok okT B:=US rfl
theorem Yr {w:World}{v:Value}{i:Int}{s:Bool}(hs:s=decide (i<0)) (h:uy w v s i.natAbs 1):RQ w v (i:Rat):=by
 subst hs;exact h
theorem rint_q (i:Int) (h1:-9223372036854775808<=i) (h2:i<=9223372036854775807) (w:World):Calls Tryz.prog 36 #[.int .i64 i] w (RNew w (i:Rat)):=by
 by_cases hi:i<0
 ·have hC:(mkC [1,1,1,1,1,1,1] [true,true,true,true,true,false,false] [40] 18 [clV (ii i),clV (ii (i+1)),clV (ii (-(i+1))),clV (.int .u64 (-(i+1))),clV (.int .u64 ((i.natAbs:Nat):Int)),clD (digs i.natAbs),clD (digs 1)] w).Ok :=
   jY (cg (jv _) (cg (jv _) (cg (jv _) (cg (ccD _) (cg (ccD _) (cg (cO ke _) (cg (cO ke _) jp))))))) rfl rfl
  have hT:∀ t∈([⟨.bin .lss 2,[op 0,vp (ii 0)],.val (vp (.bool true))⟩,⟨.bin .add 2,[op 0,vp (ii 1)],.val (op 1)⟩,⟨.un .neg 2,[op 1],.val (op 2)⟩,⟨.cv 2 30,[op 2],.val (op 3)⟩,
   ⟨.bin .add 30,[op 3,vp (.int .u64 1)],.val (op 4)⟩,⟨.call 78,[op 4],.val (op 5)⟩,⟨.bs 38 1,[vp (ii 1)],.val (op 6)⟩]:List Ent),t.Valid (mkC [1,1,1,1,1,1,1] [true,true,true,true,true,false,false] [40] 18 [clV (ii i),clV (ii (i+1)),clV (ii (-(i+1))),clV (.int .u64 (-(i+1))),clV (.int .u64 ((i.natAbs:Nat):Int)),clD (digs i.natAbs),clD (digs 1)] w) :=
   ca (yD (pv rfl) pvl (decide_eq_true hi)) (ca (uV rfl (pv rfl) pvl (rv rfl) (by omega)) (ca (e_negi rfl (pv rfl) (rv rfl) (by omega)) (ca (e_cv (by kernel_rfl) (by kernel_rfl) (by kernel_rfl) (pv rfl) (rv rfl) (by rw[wrap_u64];omega))
    (ca (e_addu (by omega) (pv rfl) pvl (rv rfl) (by omega)) (ca (Yc (by omega) (pv rfl) (rd rfl)) (ca (cgH (x:=1) pvl (rd (by rw[← GE];rfl))) ce))))))
  refine(jI hC hT 36 Tryz.f36 [op 0] (.val (rl true 5 6)) 60 Tryz.func36 rfl rfl rfl (by kernel_rfl) [.int .i64 i] ⟨_,_,rfl,(kN rfl).2 rfl,rfl⟩).mono ?_;rintro e w' ⟨v,rfl,hv,hb⟩;exact⟨v,rfl,Yr (by simp [hi]) ((ccb rfl rfl).1 hv),hb⟩
 ·have hC:(mkC [1,1,1,1] [true,true,false,false] [40] 18 [clV (ii i),clV (.int .u64 ((i.natAbs:Nat):Int)),clD (digs i.natAbs),clD (digs 1)] w).Ok :=
   jY (cg (jv _) (cg (ccD _) (cg (cO ke _) (cg (cO ke _) jp)))) rfl rfl
  have ei:(i.natAbs:Int)=i:=by omega
  have hT:∀ t∈([⟨.bin .lss 2,[op 0,vp (ii 0)],.val (vp (.bool false))⟩,⟨.cv 2 30,[op 0],.val (op 1)⟩,
   ⟨.call 78,[op 1],.val (op 2)⟩,⟨.bs 38 1,[vp (ii 1)],.val (op 3)⟩]:List Ent),t.Valid (mkC [1,1,1,1] [true,true,false,false] [40] 18 [clV (ii i),clV (.int .u64 ((i.natAbs:Nat):Int)),clD (digs i.natAbs),clD (digs 1)] w) :=
   ca (yD (pv rfl) pvl (decide_eq_false hi)) (ca (e_cv (x:=i) (by kernel_rfl) (by kernel_rfl) (by kernel_rfl) (pv rfl) (by rw[← ei];exact rv rfl) (by rw[wrap_u64];omega))
    (ca (Yc (by omega) (pv rfl) (rd rfl)) (ca (cgH (x:=1) pvl (rd (by rw[← GE];rfl))) ce)))
  refine(jI hC hT 36 Tryz.f36 [op 0] (.val (rl false 2 3)) 60 Tryz.func36 rfl rfl rfl (by kernel_rfl) [.int .i64 i] ⟨_,_,rfl,(kN rfl).2 rfl,rfl⟩).mono ?_;rintro e w' ⟨v,rfl,hv,hb⟩;exact⟨v,rfl,Yr (by simp [hi]) ((ccb rfl rfl).1 hv),hb⟩
section
variable {csz:List Nat}{numc:List Bool}{okT:List Nat}{nt:Nat}{cl:List Cl}{w0:World}{w:World}{v z:Value}{p1 p2 p3 p4:Pat}{res:cL}{c d c1 c2 c3 c4 c5 c6:Nat}{r s t r1 r2 r3 r4:Rat}{k k1 k2 k3 k4 k5 k6:Nat}
end
section
variable {csz:List Nat}{numc:List Bool}{okT:List Nat}{nt:Nat}{cl:List Cl}{w0:World}{w:World}{v z:Value}{p1 p2 p3 p4:Pat}{res:cL}{c d c1 c2 c3 c4 c5 c6:Nat}{r s t r1 r2 r3 r4:Rat}{k k1 k2 k3 k4 k5 k6:Nat}
theorem e_rint {i:Int}(h1:-9223372036854775808<=i) (h2:i<=9223372036854775807) (h3:cl[c3]?=some (clR (i:Rat) k3)) (hk:ZY 1 k3=true):V csz numc okT nt cl w0 (.call 36) [vp (ii i)] (.val (rq c3)):=by
 refine⟨enters_of Tryz.func36 (by kernel_rfl) rfl,fun w vs hb hvs=>?_⟩;obtain⟨v1,_,rfl,g4,rfl⟩:=hvs;obtain rfl:=Cc.1 g4;refine(rint_q i h1 h2 w).mono ?_;rintro e w' ⟨v,rfl,hv,hb'⟩;exact⟨v,rfl,(uf h3).2 ⟨hv,(EO i h1 h2).le (JJ hk).1⟩,hb'⟩
end
end Sym
end Go.Proofs.YtokieocpdcngcabGreatDoor
