/- Part 20. -/
import Derived.Test.YtgdnkbajagfijaaGreatDoorD19
import Derived.Test.YtgdnkbajagfijaaGreatDoorD18
set_option linter.all false

namespace Go.Proofs.YtgdnkbajagfijaaGreatDoor.Lim
def CS (r:Rat):Int:=if r.num<0 then -((r.num.natAbs/r.den:Nat):Int) else ((r.num.natAbs/r.den:Nat):Int)
theorem caX (r:Rat):(CS r).natAbs=r.num.natAbs/r.den:=by
 unfold CS;generalize r.num.natAbs/r.den=q;split<;>omega
theorem ZE (r : Rat) : r.floor = if r.num < 0 ∧ r.num.natAbs % r.den ≠ 0 then CS r - 1 else CS r := by
  rw [Rat.floor_def]
  unfold CS
  have hd := r.den_pos
  have h1 := kO r.num.natAbs r.den
  have h2 := jY r.num.natAbs hd
  have h3 := Int.mul_ediv_add_emod r.num r.den
  have h4 := Int.emod_nonneg r.num (b := (r.den : Int)) (by omega)
  have h5 := Int.emod_lt_of_pos r.num (b := (r.den : Int)) (by omega)
  generalize r.num / (r.den : Int) = Q at *
  generalize r.num % (r.den : Int) = R at *
  generalize r.num.natAbs / r.den = q at *
  generalize r.num.natAbs % r.den = m at *
  generalize r.den = d at *
  by_cases hn : r.num < 0
  · have e : (r.num : Int) = -((d : Int) * q + m) := by have : (r.num.natAbs : Int) = -r.num := by omega
                                                        rw [← h1] at this; push_cast at this; omega
    by_cases hm : m = 0
    · subst hm
      rw [cg (by simp), co hn]
      have : (d : Int) * (Q + q) = -R := by rw [Int.mul_add]; rw [e] at h3; push_cast at h3; omega
      have h0 : Q + q = 0 := by
        rcases cga (Q + q) 0 with h | h | h
        · have := cak (show Q + q ≤ -1 by omega) (show (0:Int) ≤ d by omega); omega
        · exact h
        · have := cak (show 1 ≤ Q + q by omega) (show (0:Int) ≤ d by omega); omega
      omega
    · rw [co ⟨hn, hm⟩, co hn]
      have : (d : Int) * (Q + q) = -R - m := by rw [Int.mul_add]; omega
      have h0 : Q + q = -1 := by
        rcases cga (Q + q) (-1) with h | h | h
        · have := cak (show Q + q ≤ -2 by omega) (show (0:Int) ≤ d by omega); omega
        · exact h
        · have := cak (show 0 ≤ Q + q by omega) (show (0:Int) ≤ d by omega); omega
      omega
  · have e : (r.num : Int) = (d : Int) * q + m := by have : (r.num.natAbs : Int) = r.num := by omega
                                                     rw [← h1] at this; push_cast at this; omega
    rw [cg (by simp [hn]), cg hn]
    have : (d : Int) * (Q - q) = m - R := by rw [Int.mul_sub]; omega
    have h0 : Q - q = 0 := by
      rcases cga (Q - q) 0 with h | h | h
      · have := cak (show Q - q ≤ -1 by omega) (show (0:Int) ≤ d by omega); omega
      · exact h
      · have := cak (show 1 ≤ Q - q by omega) (show (0:Int) ≤ d by omega); omega
    omega
theorem cgU (r:Rat):r.num.natAbs%r.den=0↔r.den=1:=by
 constructor
 ·intro h;have:=r.reduced;have hd:r.den ∣ r.num.natAbs:=Nat.dvd_of_mod_eq_zero h;have hg:Nat.gcd r.num.natAbs r.den=r.den:=Nat.gcd_eq_right hd;rw[Nat.Coprime,hg] at this;exact this
 ·intro h;rw[h,Nat.mod_one]
theorem coP (r:Rat):r.ceil=-((-r).floor):=by
 unfold Rat.ceil;rw[Rat.floor_def,Rat.neg_num,Rat.neg_den];have hd:=r.den_pos;by_cases h:r.den=1
 ·rw[co h,h];simp
 ·rw[cg h];have h0:r.num%(r.den:Int)≠0:=by
   intro e;refine h ((cgU r).1 (Nat.mod_eq_zero_of_dvd ?_));have:=Int.natAbs_dvd_natAbs.2 (Int.dvd_of_emod_eq_zero e);simpa using this
  rw[Int.neg_ediv,cg (by rw[Int.dvd_iff_emod_eq_zero];exact h0)];have:Int.sign (r.den:Int)=1:=Int.sign_eq_one_of_pos (by omega);omega
theorem chR (r:Rat):r.ceil=if ¬ r.num<0/\r.num.natAbs%r.den≠0 then CS r+1 else CS r:=by
 rw[coP,ZE];unfold CS;rw[Rat.neg_num,Rat.neg_den,Int.natAbs_neg];rcases cga r.num 0 with h|h|h
 ·rw[cg (by omega),cg (by simp;omega),cg (by omega),co h]
 ·rw[h];simp
 ·rw[co (show -r.num<0 by omega),cg (show ¬ r.num<0 by omega)];by_cases hm:r.num.natAbs%r.den=0
  ·simp [hm]
  ·rw[co ⟨by omega,hm⟩,co ⟨by omega,hm⟩];omega
end Go.Proofs.YtgdnkbajagfijaaGreatDoor.Lim

namespace Go.Proofs.YtgdnkbajagfijaaGreatDoor
open Go Go.RowKit Go.Proofs Lim
def cfP (w:World) (t:Rat) (rest:Bool) (e:Ending) (w':World):Prop:=∃ v,e=.returned (.tuple #[v,.bool rest])/\IsQ w' v t/\Below w.heap.size w w'
def zC (r:Rat):Bool:=decide (r.num.natAbs%r.den≠0)
theorem cob (r:Rat) (n:Nat) (hn:n=r.num.natAbs/r.den):(neg? r&&!decide (n=0))=decide (CS r<0):=by
 unfold CS;rw[← hn,Ji];by_cases h:r.num<0
 ·simp [h];omega
 ·simp [h]
theorem cut_low (r:Rat) (l:Nat) (hd:r.den=l+1) (hn:r.num.natAbs<B) (hdB:r.den<B) (w:World) :
 Calls Tryz.prog 173 #[lo (neg? r) r.num.natAbs l] w (cfP w ((CS r:Int):Rat) (zC r)):=by
 have hqB:r.num.natAbs/r.den<B:=jq (kF _ _) hn;have hmB:r.num.natAbs%r.den<B:=jq (Nat.mod_le _ _) hn;have hq:∀ W,IsQ W (lo (neg? r&&!decide (r.num.natAbs/r.den=0)) (r.num.natAbs/r.den) (zt 1 1)) ((CS r:Int):Rat):=by
  intro W;unfold IsQ;rw[Jy,Zm,caX,cob r _ rfl];exact Num.low 0 rfl rfl hqB (by decide)
 have HQ:=ca hq;have HS:=ca (fun W=>show Calls Tryz.prog 75 #[.bool (neg? r),u (r.num.natAbs/r.den),.int .u64 1] W (Val W (lo (neg? r&&!decide (r.num.natAbs/r.den=0)) (r.num.natAbs/r.den) (zt 1 1))) from GI (neg? r) (r.num.natAbs/r.den) 1 (by decide) W);have HBo:=ca (fun W=>yK (neg? r) r.num.natAbs l none (hd▸hdB) W);rw[← hd] at HBo;have d0:¬ r.den=0:=r.den_nz;unfold zC;clear hq hd;generalize ((CS r:Int):Rat)=t at *;generalize neg? r=sg at *;generalize r.num.natAbs=n at *;generalize r.den=d at *;have t1:Int.tdiv ((n:Nat):Int) ((d:Nat):Int)=((n/d:Nat):Int):=by rw[GO (by omega),yC]
 have t2:Int.tmod ((n:Nat):Int) ((d:Nat):Int)=((n%d:Nat):Int):=by rw[cfJ (by omega),cca]
 have t3:((n:Nat):Int)/((d:Nat):Int)=((n/d:Nat):Int):=by rw[yC]
 have t4:((n:Nat):Int)%((d:Nat):Int)=((n%d:Nat):Int):=by rw[cca]
 generalize n/d=q at *;generalize n%d=m at *;have w1:IntKind.u64.wrap ((q:Nat):Int)=(q:Int):=kn hqB;have w2:IntKind.u64.wrap ((m:Nat):Int)=(m:Int):=kn hmB;have hm0:(((m:Nat):Int) != 0)=decide (m≠0):=by rw[Ji];simp
 have y1:(((d:Nat):Int) == 0)=false:=by rw[jz];omega
 generalize decide (m≠0)=rest at *;generalize (sg&&!decide (q=0))=sg2 at *;generalize zt 1 1=l2 at *
 go_enter Tryz.func173,Tryz.ntmps173
 go_wp2_with fail;obtain⟨W0,hW0,hb0,hx0,hz⟩:=UZ w (.bool sg) (u n) (u l) (.pointer none);rw[← hW0];clear hW0;obtain⟨f0,f1,f2,f3⟩:=hx0.cells;have HZ:=ca hz;have HW0:=ca hb0;have hb0:=cu W0.heap.size W0;clear hz hx0;have n1:¬ w.heap.size=w.heap.size+1:=(by omega);have n2:¬ w.heap.size+1=w.heap.size:=(by omega)
 go_region_held3 (fun w'=>(w'.cell? ⟨w.heap.size,0,none⟩=some (.bool sg)/\w'.cell? ⟨w.heap.size,1,none⟩=some (u n)/\w'.cell? ⟨w.heap.size,2,none⟩=some (u l)/\w'.cell? ⟨w.heap.size,3,none⟩=some (.pointer none))) (go_keep) (first|((with_reducible refine(HBo.out _).mono ?_);rintro e W1 ⟨rfl,hb⟩;(obtain⟨_,_,_,_⟩:=Yw w hb);have hb0:Below W0.heap.size W0 W1:=(by first|exact uk hb0 hb|exact cn hb0 hb);clear hb;(obtain⟨z0,z1,z2,z3,zf0,zf1,zf2,zf3⟩:=HZ.out.zed hb0))|((with_reducible refine(HS.out _).mono ?_);rintro e W2 ⟨rfl,hb⟩;(obtain⟨_,_,_,_⟩:=Yw w hb);have hb0:Below W0.heap.size W0 W2:=(by first|exact uk hb0 hb|exact cn hb0 hb);clear hb;(obtain⟨z0,z1,z2,z3,zf0,zf1,zf2,zf3⟩:=HZ.out.zed hb0)))
 have hz:=HZ.out.below hb0 (cb _);have hfin:=ym.stored (a0:=.bool sg2) (a1:=u q) (a2:=u l2) (a3:=.pointer none) hz (HQ.out _) (cn HW0.out hb0) (by omega);have HFin:=ca hfin;clear hfin hz f0 f1 f2 f3;go_wp2_with fail;refine cP (v:=.tuple #[lo sg2 q l2,.bool rest]) (by simp [results,Tryz.results173,go_sem,z0,z1,z2,z3]) rfl ?_;obtain⟨v,hv,hq,hbb⟩:=HFin.out;injection hv with hv
 subst hv;exact⟨_,rfl,hq,hbb⟩
theorem coU (r:Rat) (b k:Nat) (x y:Value) (w:World) (hx:w.cell? ⟨b,0,none⟩=some x) (hy:w.cell? ⟨b,1,none⟩=some y) (h1:cw w x r.num.natAbs) (h2:cw w y r.den)
 (hk:r.num.natAbs<B^k) (hk2:(k:Int)<=1073741824) :
 Calls Tryz.prog 173 #[wi (neg? r) ⟨b,0,none⟩] w (cfP w ((CS r:Int):Rat) (zC r)):=by
 have HOv:=ca (fun W (hW:Below w.heap.size w W)=>Zi x y r.num.natAbs r.den k W (h1.below hW (cb _)) (h2.below hW (cb _)) r.den_pos hk hk2);have HW:=ca (fun v W (hv:cw W v (r.num.natAbs/r.den))=>(JZ (neg? r) v _ W hv).mono fun e W' h=>h.q (r:=((CS r:Int):Rat)) (by rw[Jy];unfold CS sgn neg?;simp) (by rw[Zm]));obtain⟨xa,xl,xc,rfl,_⟩:=h1.form;obtain⟨ya,yl,yc,rfl,_⟩:=h2.form;unfold zC;clear h1 h2 hk hk2;generalize ((CS r:Int):Rat)=t at *;generalize neg? r=sg at *;obtain⟨rest,hrest⟩:∃ rest,rest=decide (r.num.natAbs%r.den≠0):=⟨_,rfl⟩;rw[← hrest];have HRest:=ca hrest;clear hrest
 go_enter Tryz.func173,Tryz.ntmps173
 go_wp2_with fail;have p1:¬ b=w.heap.size+1:=by have:=jv w _ hx;simp at this;omega
 have p2:¬ w.heap.size+1=b:=fun h=>p1 h.symm;obtain⟨W0,hW0,hb0,hx0,hz⟩:=UZ w (.bool sg) (u 0) (u 0) (.pointer (some ⟨b,0,none⟩));rw[← hW0];clear hW0;obtain⟨f0,f1,f2,f3⟩:=hx0.cells;have HZ:=ca hz;have HW0:=ca hb0;have hb0:=cu W0.heap.size W0;clear hz hx0;have n1:¬ w.heap.size=w.heap.size+1:=(by omega);have n2:¬ w.heap.size+1=w.heap.size:=(by omega);have hx:W0.cell? ⟨b,0,none⟩=some (.slice xa xl xc):=(HW0.out.cell (p:=⟨b,0,none⟩) (jv w _ hx)).trans hx;have hy:W0.cell? ⟨b,1,none⟩=some (.slice ya yl yc):=(HW0.out.cell (p:=⟨b,1,none⟩) (jv w _ hy)).trans hy
 go_region_held3 (fun w'=>(w'.cell? ⟨w.heap.size,0,none⟩=some (.bool sg)/\w'.cell? ⟨w.heap.size,3,none⟩=some (.pointer (some ⟨b,0,none⟩)))/\w'.cell? ⟨b,0,none⟩=some (.slice xa xl xc)/\w'.cell? ⟨b,1,none⟩=some (.slice ya yl yc)) (go_keep) (((with_reducible refine(HOv.out _ (HW0.out.drew)).mono ?_);rintro e W1 ⟨qv,rv,rfl,hqv,hrv,hb⟩;(obtain⟨_,_,_,_⟩:=Yw w hb);have hb3:=uk hb0 hb;have k1:=(hb3.cell (p:=⟨b,0,none⟩) (jv W0 _ hx)).trans hx;have k2:=(hb3.cell (p:=⟨b,1,none⟩) (jv W0 _ hy)).trans hy;obtain⟨qa,ql,qc,rfl,_⟩:=hqv.form;obtain⟨ra,rl,rc,rfl,_,hrz,_⟩:=hrv.form;(obtain⟨z0,z1,z2,z3,zf0,zf1,zf2,zf3⟩:=HZ.out.zed hb3)))
 have hrb:(((rl:Nat):Int) != 0)=rest:=by
  rw[HRest.out,Ji];simp;exact not_congr hrz
 have HQV:=ca hqv;have HA:=ca hb3;clear hqv hrv hb hb0 hb3 hrz k1 k2 hx hy f0 f1 f2 f3 z0 z1 z2 z3 zf0 zf1 zf2 zf3 p1 p2;go_wp2_with fail;refine(HW.out _ _ HQV.out).mono ?_;rintro e W2 ⟨v,rfl,hv,hb⟩;have hb3:=cn HA.out hb;have hv':=hv;obtain⟨sg9,a9,b9,p9,rfl⟩:=hv'.form;have hz:=HZ.out.below hb3 (cb _);have hfin:=ym.stored (a0:=.bool sg9) (a1:=u a9) (a2:=u b9) (a3:=.pointer p9) hz hv (cn HW0.out hb3) (by omega);have HFin:=ca hfin
 (obtain⟨z0,z1,z2,z3,zf0,zf1,zf2,zf3⟩:=HZ.out.zed hb3)
 clear hfin hv hv' hb hb3 hz;go_wp2_with fail;refine cP (v:=.tuple #[.agg #[.bool sg9,u a9,u b9,.pointer p9],.bool rest]) (by simp [results,Tryz.results173,go_sem,z0,z1,z2,z3]) rfl ?_;obtain⟨v,hv,hq,hbb⟩:=HFin.out;injection hv with hv
 subst hv;exact⟨_,rfl,hq,hbb⟩
theorem cut_q (v:Value) (r:Rat) (k:Nat) (w:World) (h:IsQ w v r) (z:Siz r k) (hk:(k:Int)<=1073741824) :
 Calls Tryz.prog 173 #[v] w (cfP w ((CS r:Int):Rat) (zC r)):=by
 cases h with
 |low l hv hd hn hdB=>subst hv;exact cut_low r l hd hn hdB w
 |wide b x y hv hx hy h1 h2 hB h0 hd=>subst hv;exact coU r b k x y w hx hy h1 h2 z.1 hk
theorem Siz.cut {r:Rat}{k:Nat}(h:Siz r k) (hk:1<=k):Siz ((CS r:Int):Rat) k:=by
 unfold Siz at *;rw[Jy,Zm,caX];refine⟨jq (kF _ _) h.1,?_⟩;exact cE (show 1<B^1 by decide) (jW ke hk)
theorem floor_q (v:Value) (r:Rat) (k:Nat) (w:World) (h:IsQ w v r) (z:Siz r k) (hk1:1<=k) (hk:((k+k+1:Nat):Int)<=1073741824) (hG:Gr w) :
 Calls Tryz.prog 145 #[v] w (ym w ((r.floor:Int):Rat)):=by
 have HC:=ca (fun W (hW:Below w.heap.size w W)=>cut_q v r k W (h.below hW (cb _)) z (by omega));have HI:=ca (fun W=>chl 1 (by decide) (by decide) W);have HM:=ca (fun v1 v2 W (hv1:IsQ W v1 ((CS r:Int):Rat)) (hv2:IsQ W v2 ((1:Int):Rat)) (hW:Below w.heap.size w W)=>ckr v1 v2 ((CS r:Int):Rat) ((1:Int):Rat) k W hv1 hv2 (z.cut hk1) ((EK 1 (by decide) (by decide)).le hk1) hk (hG.below hW hG.size));have hfl:=ZE r;obtain⟨a1,b1,p1,rfl,_⟩:=Num.form h;clear h z hk;by_cases hr:r.num.natAbs%r.den≠0
 ·have hr':zC r=true:=by unfold zC;simpa using hr
  by_cases hc:r.num<0
  ·rw[co ⟨hc,hr⟩] at hfl;rw[hfl,Rat.intCast_sub];rw[cG hc,hr'] at HC;rw[cG hc];clear hfl hc hr hr';generalize ((CS r:Int):Rat)=t at *;generalize ((1:Int):Rat)=t1 at *;generalize t-t1=tt at *
   go_enter Tryz.func145,Tryz.ntmps145
   go_wp2_with fail;obtain⟨W0,hW0,hb0,hx0,hz⟩:=UZ w (.bool true) (u a1) (u b1) (.pointer p1);rw[← hW0];clear hW0;obtain⟨f0,f1,f2,f3⟩:=hx0.cells;have HZ:=ca hz;have HW0:=ca hb0;have hb0:=cu W0.heap.size W0;clear hz hx0;have n1:¬ w.heap.size=w.heap.size+1:=(by omega);have n2:¬ w.heap.size+1=w.heap.size:=(by omega);refine(HC.out _ (cn HW0.out hb0)).mono ?_;rintro e W1 ⟨nv,rfl,hnv,hb⟩
   (obtain⟨_,_,_,_⟩:=Yw w hb)
   have hb3:=cn hb0 hb
   (obtain⟨z0,z1,z2,z3,zf0,zf1,zf2,zf3⟩:=HZ.out.zed hb3)
   obtain⟨sn,an,bn,pn,rfl⟩:=hnv.form;have HNV:=ca hnv;have HA:=ca hb3;clear hnv hb hb0 hb3 HC;have q0:w.heap.size<W1.heap.size:=jv W1 ⟨w.heap.size,0,none⟩ (by assumption);have q1:w.heap.size+1<W1.heap.size:=jv W1 ⟨w.heap.size+1,0,none⟩ (by assumption);clear f0 f1 f2 f3;go_wp2_with fail;obtain⟨W2,hW,hb,⟨g0,g1,g2,g3⟩⟩:=caq W1 (.bool sn) (u an) (u bn) (.pointer pn);rw[← hW];clear hW;have hb2:=cn HA.out hb;have HNV:=ca (HNV.out.below hb (cb _));have q2:¬ W1.heap.size=w.heap.size+1:=by omega
   have q3:¬ w.heap.size+1=W1.heap.size:=by omega
   have q4:W1.heap.size≠w.heap.size+1:=by omega
   clear q0 q1 z0 z1 z2 z3 zf0 zf1 zf2 zf3 HA hb;generalize W1.heap.size=bn1 at *
   go_region_held3 (fun w'=>(w'.cell? ⟨bn1,0,none⟩=some (.bool sn)/\w'.cell? ⟨bn1,1,none⟩=some (u an)/\w'.cell? ⟨bn1,2,none⟩=some (u bn)/\w'.cell? ⟨bn1,3,none⟩=some (.pointer pn))) (go_keep) (first|((with_reducible refine(HI.out _).mono ?_);rintro e W3 ⟨v1,rfl,hv1,hb⟩;have hb3:=uk hb2 hb;have HN3:=(HNV.out.below (cu W2.heap.size W2).drew (cb _)).below hb (cb _);(have hh:=EO (b:=bn1) hb g0 g1 g2 g3;clear g0 g1 g2 g3;obtain⟨g0,g1,g2,g3⟩:=hh);obtain⟨_,_,_,_,rfl⟩:=hv1.form)|((with_reducible refine(HM.out _ _ _ HN3 hv1 (cn HW0.out hb3)).mono ?_);rintro e W4 ⟨v2,rfl,hv2,hb'⟩;have hb4:=cn hb3 hb';(have hh:=EO (b:=bn1) hb' g0 g1 g2 g3;clear g0 g1 g2 g3;obtain⟨g0,g1,g2,g3⟩:=hh);have hv':=hv2;obtain⟨sg9,a9,b9,p9,rfl⟩:=hv'.form;(obtain⟨z0,z1,z2,z3,zf0,zf1,zf2,zf3⟩:=HZ.out.zed hb4)))
   have hz:=HZ.out.below hb4 (cb _);have hfin:=ym.stored (a0:=.bool sg9) (a1:=u a9) (a2:=u b9) (a3:=.pointer p9) hz hv2 (cn HW0.out hb4) (by omega);have HFin:=ca hfin;clear hfin hv2 hv' hb hb' hb4 hb3 hb2 hz;go_wp2_with fail;refine cP (v:=.agg #[.bool sg9,u a9,u b9,.pointer p9]) (by simp [results,Tryz.results145,go_sem,z0,z1,z2,z3]) rfl ?_;exact HFin.out
  ·rw[cg (fun h=>hc h.1)] at hfl;rw[hfl];rw[cJ hc,hr'] at HC;rw[cJ hc];clear hfl hc hr hr' HI HM;generalize ((CS r:Int):Rat)=t at *
   go_enter Tryz.func145,Tryz.ntmps145
   go_wp2_with fail;obtain⟨W0,hW0,hb0,hx0,hz⟩:=UZ w (.bool false) (u a1) (u b1) (.pointer p1);rw[← hW0];clear hW0;obtain⟨f0,f1,f2,f3⟩:=hx0.cells;have HZ:=ca hz;have HW0:=ca hb0;have hb0:=cu W0.heap.size W0;clear hz hx0;have n1:¬ w.heap.size=w.heap.size+1:=(by omega);have n2:¬ w.heap.size+1=w.heap.size:=(by omega);refine(HC.out _ (cn HW0.out hb0)).mono ?_;rintro e W1 ⟨nv,rfl,hnv,hb⟩
   (obtain⟨_,_,_,_⟩:=Yw w hb)
   have hb3:=cn hb0 hb
   (obtain⟨z0,z1,z2,z3,zf0,zf1,zf2,zf3⟩:=HZ.out.zed hb3)
   obtain⟨sn,an,bn,pn,rfl⟩:=hnv.form;have HNV:=ca hnv;have HA:=ca hb3;clear hnv hb hb0 hb3 HC;have q0:w.heap.size<W1.heap.size:=jv W1 ⟨w.heap.size,0,none⟩ (by assumption);have q1:w.heap.size+1<W1.heap.size:=jv W1 ⟨w.heap.size+1,0,none⟩ (by assumption);clear f0 f1 f2 f3;have hb2:=HA.out;have hz:=HZ.out.below hb2 (cb _);have hfin:=(ym.stored (a0:=.bool sn) (a1:=u an) (a2:=u bn) (a3:=.pointer pn) hz HNV.out (cn HW0.out hb2) (by omega)).alloc (.cells #[.bool sn,u an,u bn,.pointer pn] 34);have HFin:=ca hfin;clear hfin hb2 hz HNV HA;go_wp2_with fail;refine cP (v:=.agg #[.bool sn,u an,u bn,.pointer pn]) (by simp [results,Tryz.results145,go_sem,z0,z1,z2,z3,q1]) rfl ?_;exact HFin.out
 ·have hr':zC r=false:=by unfold zC;simpa using hr
  rw[cg (fun h=>hr h.2)] at hfl;rw[hfl];rw[hr'] at HC;clear hfl hr hr' HI HM;generalize ((CS r:Int):Rat)=t at *;generalize decide (r.num<0)=sg at *
  go_enter Tryz.func145,Tryz.ntmps145
  go_wp2_with fail;obtain⟨W0,hW0,hb0,hx0,hz⟩:=UZ w (.bool sg) (u a1) (u b1) (.pointer p1);rw[← hW0];clear hW0;obtain⟨f0,f1,f2,f3⟩:=hx0.cells;have HZ:=ca hz;have HW0:=ca hb0;have hb0:=cu W0.heap.size W0;clear hz hx0;have n1:¬ w.heap.size=w.heap.size+1:=(by omega);have n2:¬ w.heap.size+1=w.heap.size:=(by omega);refine(HC.out _ (cn HW0.out hb0)).mono ?_;rintro e W1 ⟨nv,rfl,hnv,hb⟩
  (obtain⟨_,_,_,_⟩:=Yw w hb)
  have hb3:=cn hb0 hb
  (obtain⟨z0,z1,z2,z3,zf0,zf1,zf2,zf3⟩:=HZ.out.zed hb3)
  obtain⟨sn,an,bn,pn,rfl⟩:=hnv.form;have HNV:=ca hnv;have HA:=ca hb3;clear hnv hb hb0 hb3 HC;have q0:w.heap.size<W1.heap.size:=jv W1 ⟨w.heap.size,0,none⟩ (by assumption);have q1:w.heap.size+1<W1.heap.size:=jv W1 ⟨w.heap.size+1,0,none⟩ (by assumption);clear f0 f1 f2 f3;have hb2:=HA.out;have hz:=HZ.out.below hb2 (cb _);have hfin:=(ym.stored (a0:=.bool sn) (a1:=u an) (a2:=u bn) (a3:=.pointer pn) hz HNV.out (cn HW0.out hb2) (by omega)).alloc (.cells #[.bool sn,u an,u bn,.pointer pn] 34);have HFin:=ca hfin;clear hfin hb2 hz HNV HA;go_wp2_with fail;refine cP (v:=.agg #[.bool sn,u an,u bn,.pointer pn]) (by simp [results,Tryz.results145,go_sem,z0,z1,z2,z3,q1]) rfl ?_;exact HFin.out
theorem ceil_q (v:Value) (r:Rat) (k:Nat) (w:World) (h:IsQ w v r) (z:Siz r k) (hk1:1<=k) (hk:((k+k+1:Nat):Int)<=1073741824) (hG:Gr w) :
 Calls Tryz.prog 146 #[v] w (ym w ((r.ceil:Int):Rat)):=by
 have HC:=ca (fun W (hW:Below w.heap.size w W)=>cut_q v r k W (h.below hW (cb _)) z (by omega));have HI:=ca (fun W=>chl 1 (by decide) (by decide) W);have HM:=ca (fun v1 v2 W (hv1:IsQ W v1 ((CS r:Int):Rat)) (hv2:IsQ W v2 ((1:Int):Rat)) (hW:Below w.heap.size w W)=>ciB v1 v2 ((CS r:Int):Rat) ((1:Int):Rat) k W hv1 hv2 (z.cut hk1) ((EK 1 (by decide) (by decide)).le hk1) hk (hG.below hW hG.size));have hfl:=chR r;obtain⟨a1,b1,p1,rfl,_⟩:=Num.form h;clear h z hk;by_cases hr:r.num.natAbs%r.den≠0
 ·have hr':zC r=true:=by unfold zC;simpa using hr
  by_cases hc:¬ r.num<0
  ·rw[co ⟨hc,hr⟩] at hfl;rw[hfl,Rat.intCast_add];rw[cJ hc,hr'] at HC;rw[cJ hc];clear hfl hc hr hr';generalize ((CS r:Int):Rat)=t at *;generalize ((1:Int):Rat)=t1 at *;generalize t+t1=tt at *
   go_enter Tryz.func146,Tryz.ntmps146
   go_wp2_with fail;obtain⟨W0,hW0,hb0,hx0,hz⟩:=UZ w (.bool false) (u a1) (u b1) (.pointer p1);rw[← hW0];clear hW0;obtain⟨f0,f1,f2,f3⟩:=hx0.cells;have HZ:=ca hz;have HW0:=ca hb0;have hb0:=cu W0.heap.size W0;clear hz hx0;have n1:¬ w.heap.size=w.heap.size+1:=(by omega);have n2:¬ w.heap.size+1=w.heap.size:=(by omega);refine(HC.out _ (cn HW0.out hb0)).mono ?_;rintro e W1 ⟨nv,rfl,hnv,hb⟩
   (obtain⟨_,_,_,_⟩:=Yw w hb)
   have hb3:=cn hb0 hb
   (obtain⟨z0,z1,z2,z3,zf0,zf1,zf2,zf3⟩:=HZ.out.zed hb3)
   obtain⟨sn,an,bn,pn,rfl⟩:=hnv.form;have HNV:=ca hnv;have HA:=ca hb3;clear hnv hb hb0 hb3 HC;have q0:w.heap.size<W1.heap.size:=jv W1 ⟨w.heap.size,0,none⟩ (by assumption);have q1:w.heap.size+1<W1.heap.size:=jv W1 ⟨w.heap.size+1,0,none⟩ (by assumption);clear f0 f1 f2 f3;go_wp2_with fail;obtain⟨W2,hW,hb,⟨g0,g1,g2,g3⟩⟩:=caq W1 (.bool sn) (u an) (u bn) (.pointer pn);rw[← hW];clear hW;have hb2:=cn HA.out hb;have HNV:=ca (HNV.out.below hb (cb _));have q2:¬ W1.heap.size=w.heap.size+1:=by omega
   have q3:¬ w.heap.size+1=W1.heap.size:=by omega
   have q4:W1.heap.size≠w.heap.size+1:=by omega
   clear q0 q1 z0 z1 z2 z3 zf0 zf1 zf2 zf3 HA hb;generalize W1.heap.size=bn1 at *
   go_region_held3 (fun w'=>(w'.cell? ⟨bn1,0,none⟩=some (.bool sn)/\w'.cell? ⟨bn1,1,none⟩=some (u an)/\w'.cell? ⟨bn1,2,none⟩=some (u bn)/\w'.cell? ⟨bn1,3,none⟩=some (.pointer pn))) (go_keep) (first|((with_reducible refine(HI.out _).mono ?_);rintro e W3 ⟨v1,rfl,hv1,hb⟩;have hb3:=uk hb2 hb;have HN3:=(HNV.out.below (cu W2.heap.size W2).drew (cb _)).below hb (cb _);(have hh:=EO (b:=bn1) hb g0 g1 g2 g3;clear g0 g1 g2 g3;obtain⟨g0,g1,g2,g3⟩:=hh);obtain⟨_,_,_,_,rfl⟩:=hv1.form)|((with_reducible refine(HM.out _ _ _ HN3 hv1 (cn HW0.out hb3)).mono ?_);rintro e W4 ⟨v2,rfl,hv2,hb'⟩;have hb4:=cn hb3 hb';(have hh:=EO (b:=bn1) hb' g0 g1 g2 g3;clear g0 g1 g2 g3;obtain⟨g0,g1,g2,g3⟩:=hh);have hv':=hv2;obtain⟨sg9,a9,b9,p9,rfl⟩:=hv'.form;(obtain⟨z0,z1,z2,z3,zf0,zf1,zf2,zf3⟩:=HZ.out.zed hb4)))
   have hz:=HZ.out.below hb4 (cb _);have hfin:=ym.stored (a0:=.bool sg9) (a1:=u a9) (a2:=u b9) (a3:=.pointer p9) hz hv2 (cn HW0.out hb4) (by omega);have HFin:=ca hfin;clear hfin hv2 hv' hb hb' hb4 hb3 hb2 hz;go_wp2_with fail;refine cP (v:=.agg #[.bool sg9,u a9,u b9,.pointer p9]) (by simp [results,Tryz.results146,go_sem,z0,z1,z2,z3]) rfl ?_;exact HFin.out
  ·rw[cg (fun h=>hc h.1)] at hfl;rw[hfl];rw[cG (Decidable.not_not.1 hc),hr'] at HC;rw[cG (Decidable.not_not.1 hc)];clear hfl hc hr hr' HI HM;generalize ((CS r:Int):Rat)=t at *
   go_enter Tryz.func146,Tryz.ntmps146
   go_wp2_with fail;obtain⟨W0,hW0,hb0,hx0,hz⟩:=UZ w (.bool true) (u a1) (u b1) (.pointer p1);rw[← hW0];clear hW0;obtain⟨f0,f1,f2,f3⟩:=hx0.cells;have HZ:=ca hz;have HW0:=ca hb0;have hb0:=cu W0.heap.size W0;clear hz hx0;have n1:¬ w.heap.size=w.heap.size+1:=(by omega);have n2:¬ w.heap.size+1=w.heap.size:=(by omega);refine(HC.out _ (cn HW0.out hb0)).mono ?_;rintro e W1 ⟨nv,rfl,hnv,hb⟩
   (obtain⟨_,_,_,_⟩:=Yw w hb)
   have hb3:=cn hb0 hb
   (obtain⟨z0,z1,z2,z3,zf0,zf1,zf2,zf3⟩:=HZ.out.zed hb3)
   obtain⟨sn,an,bn,pn,rfl⟩:=hnv.form;have HNV:=ca hnv;have HA:=ca hb3;clear hnv hb hb0 hb3 HC;have q0:w.heap.size<W1.heap.size:=jv W1 ⟨w.heap.size,0,none⟩ (by assumption);have q1:w.heap.size+1<W1.heap.size:=jv W1 ⟨w.heap.size+1,0,none⟩ (by assumption);clear f0 f1 f2 f3;have hb2:=HA.out;have hz:=HZ.out.below hb2 (cb _);have hfin:=(ym.stored (a0:=.bool sn) (a1:=u an) (a2:=u bn) (a3:=.pointer pn) hz HNV.out (cn HW0.out hb2) (by omega)).alloc (.cells #[.bool sn,u an,u bn,.pointer pn] 34);have HFin:=ca hfin;clear hfin hb2 hz HNV HA;go_wp2_with fail;refine cP (v:=.agg #[.bool sn,u an,u bn,.pointer pn]) (by simp [results,Tryz.results146,go_sem,z0,z1,z2,z3,q1]) rfl ?_;exact HFin.out
 ·have hr':zC r=false:=by unfold zC;simpa using hr
  rw[cg (fun h=>hr h.2)] at hfl;rw[hfl];rw[hr'] at HC;clear hfl hr hr' HI HM;generalize ((CS r:Int):Rat)=t at *;generalize decide (r.num<0)=sg at *
  go_enter Tryz.func146,Tryz.ntmps146
  go_wp2_with fail;obtain⟨W0,hW0,hb0,hx0,hz⟩:=UZ w (.bool sg) (u a1) (u b1) (.pointer p1);rw[← hW0];clear hW0;obtain⟨f0,f1,f2,f3⟩:=hx0.cells;have HZ:=ca hz;have HW0:=ca hb0;have hb0:=cu W0.heap.size W0;clear hz hx0;have n1:¬ w.heap.size=w.heap.size+1:=(by omega);have n2:¬ w.heap.size+1=w.heap.size:=(by omega);refine(HC.out _ (cn HW0.out hb0)).mono ?_;rintro e W1 ⟨nv,rfl,hnv,hb⟩
  (obtain⟨_,_,_,_⟩:=Yw w hb)
  have hb3:=cn hb0 hb
  (obtain⟨z0,z1,z2,z3,zf0,zf1,zf2,zf3⟩:=HZ.out.zed hb3)
  obtain⟨sn,an,bn,pn,rfl⟩:=hnv.form;have HNV:=ca hnv;have HA:=ca hb3;clear hnv hb hb0 hb3 HC;have q0:w.heap.size<W1.heap.size:=jv W1 ⟨w.heap.size,0,none⟩ (by assumption);have q1:w.heap.size+1<W1.heap.size:=jv W1 ⟨w.heap.size+1,0,none⟩ (by assumption);clear f0 f1 f2 f3;have hb2:=HA.out;have hz:=HZ.out.below hb2 (cb _);have hfin:=(ym.stored (a0:=.bool sn) (a1:=u an) (a2:=u bn) (a3:=.pointer pn) hz HNV.out (cn HW0.out hb2) (by omega)).alloc (.cells #[.bool sn,u an,u bn,.pointer pn] 34);have HFin:=ca hfin;clear hfin hb2 hz HNV HA;go_wp2_with fail;refine cP (v:=.agg #[.bool sn,u an,u bn,.pointer pn]) (by simp [results,Tryz.results146,go_sem,z0,z1,z2,z3,q1]) rfl ?_;exact HFin.out
theorem Siz.floor {r:Rat}{k:Nat}(h:Siz r k) (hk:1<=k):Siz ((r.floor:Int):Rat) (k+2):=by
 rw[ZE];have h1:=h.cut hk;split
 ·have:=h1.sub (EK 1 (by decide) (by decide));rw[Rat.intCast_sub];exact this.le (by omega)
 ·exact h1.le (by omega)
theorem Siz.ceil {r:Rat}{k:Nat}(h:Siz r k) (hk:1<=k):Siz ((r.ceil:Int):Rat) (k+2):=by
 rw[chR];have h1:=h.cut hk;split
 ·have:=h1.add (EK 1 (by decide) (by decide));rw[Rat.intCast_add];exact this.le (by omega)
 ·exact h1.le (by omega)
end Go.Proofs.YtgdnkbajagfijaaGreatDoor
