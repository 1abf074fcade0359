/- Part 20. -/
import Derived.Test.YtokieocpdcngcaaGreatDoorZ19
set_option linter.all false
open Go.Lib (hid)
open Nat (div_le_self le_refl lt_of_le_of_lt lt_of_lt_of_le pow_le_pow_right)
open Rat (num_intCast)
open Go.World (size_alloc)

namespace Go.Proofs.YtokieocpdcngcaaGreatDoor.Lim
def cutI (r:Rat):Int:=if r.num<0 then -((r.num.natAbs/r.den:Nat):Int) else ((r.num.natAbs/r.den:Nat):Int)
theorem ccq (r:Rat):(cutI r).natAbs=r.num.natAbs/r.den:=by
 unfold cutI;generalize r.num.natAbs/r.den=q;split<;>omega
end Go.Proofs.YtokieocpdcngcaaGreatDoor.Lim

namespace Go.Proofs.YtokieocpdcngcaaGreatDoor
open Go Go.RowKit Go.Proofs Lim
open Go Go.RowKit Go.Proofs Lim
theorem Siz.cut {r:Rat}{k:Nat}(h:Siz r k) (hk:1<=k):Siz ((cutI r:Int):Rat) k:=by
 unfold Siz at *;rw[num_intCast,Rat.den_intCast,ccq];refine⟨lt_of_le_of_lt (div_le_self _ _) h.1,?_⟩;exact lt_of_lt_of_le (show 1<B^1 by decide) (pow_le_pow_right jk hk)
def cal (w:World) (s t:Rat) (e:Ending) (w':World):Prop:=∃ v1 v2,e=.returned (.tuple #[v1,v2])/\IsQ w' v1 s/\IsQ w' v2 t/\Below w.heap.size w w'
theorem box3z (w:World) (a0 a1 a2 a3:Value):∃ W,W=((w.alloc (.cells #[a0,a1,a2,a3] 50)).alloc (.cells #[.bool false,.int .u64 0,.int .u64 0,.pointer none] 50)).alloc (.cells #[.bool false,.int .u64 0,.int .u64 0,.pointer none] 50)/\Below w.heap.size w W/\
 (W.cell? ⟨w.heap.size,0,none⟩=some a0/\W.cell? ⟨w.heap.size,1,none⟩=some a1/\W.cell? ⟨w.heap.size,2,none⟩=some a2/\W.cell? ⟨w.heap.size,3,none⟩=some a3)/\
 Box W (w.heap.size+1) (.bool false) (.int .u64 0) (.int .u64 0) (.pointer none)/\Box W (w.heap.size+1+1) (.bool false) (.int .u64 0) (.int .u64 0) (.pointer none):=by
 have hb1:=ja w (.cells #[a0,a1,a2,a3] 50);have h1:=heap_alloc_new w (.cells #[a0,a1,a2,a3] 50);have hs1:(w.alloc (.cells #[a0,a1,a2,a3] 50)).heap.size=w.heap.size+1:=size_alloc ..;generalize w.alloc (.cells #[a0,a1,a2,a3] 50)=W1 at *;have hb2:=ja W1 (.cells #[.bool false,.int .u64 0,.int .u64 0,.pointer none] 50);have h2:=heap_alloc_new W1 (.cells #[.bool false,.int .u64 0,.int .u64 0,.pointer none] 50);have hs2:(W1.alloc (.cells #[.bool false,.int .u64 0,.int .u64 0,.pointer none] 50)).heap.size=w.heap.size+1+1:=by rw[size_alloc,hs1]
 rw[hs1] at h2;generalize W1.alloc (.cells #[.bool false,.int .u64 0,.int .u64 0,.pointer none] 50)=W2 at *;have hb3:=ja W2 (.cells #[.bool false,.int .u64 0,.int .u64 0,.pointer none] 50);have h3:=heap_alloc_new W2 (.cells #[.bool false,.int .u64 0,.int .u64 0,.pointer none] 50);rw[hs2] at h3;have hx:Box W1 w.heap.size a0 a1 a2 a3:=h1;exact⟨_,rfl,cf (cf hb1 hb2) hb3,(((hx.below hb2 (le_refl _)).below hb3 (le_refl _))).cells,Box.below h2 hb3 (le_refl _),h3⟩
theorem ceQ {w W:World}{R1 R2:Nat}{v1 v2:Value}{r1 r2:Rat}{a0 a1 a2 a3 b0 b1 b2 b3:Value}(hR1:Box W R1 (.bool false) (.int .u64 0) (.int .u64 0) (.pointer none)) (hR2:Box W R2 (.bool false) (.int .u64 0) (.int .u64 0) (.pointer none))
 (h1:IsQ W v1 r1) (h2:IsQ W v2 r2) (hb:Below w.heap.size w W) (hw1:w.heap.size<=R1) (hw2:w.heap.size<=R2) (hne:R2≠R1) :
 cal w r1 r2 (.returned (.tuple #[v1,v2])) ((((((((W.setCell ⟨R1,0,none⟩ a0).setCell ⟨R1,1,none⟩ a1).setCell ⟨R1,2,none⟩ a2).setCell ⟨R1,3,none⟩ a3).setCell ⟨R2,0,none⟩ b0).setCell ⟨R2,1,none⟩ b1).setCell ⟨R2,2,none⟩ b2).setCell ⟨R2,3,none⟩ b3):=by
 have ho:=((((cV.refl R1 W).set 0 a0).set 1 a1).set 2 a2).set 3 a3;generalize (((W.setCell ⟨R1,0,none⟩ a0).setCell ⟨R1,1,none⟩ a1).setCell ⟨R1,2,none⟩ a2).setCell ⟨R1,3,none⟩ a3=W1 at *;have k1:IsQ W1 v1 r1:=Num.only hR1 h1 ho;have k2:IsQ W1 v2 r2:=Num.only hR1 h2 ho;have kR:Box W1 R2 (.bool false) (.int .u64 0) (.int .u64 0) (.pointer none):=(ho.block R2 hne).trans hR2;have ho2:=((((cV.refl R2 W1).set 0 b0).set 1 b1).set 2 b2).set 3 b3;exact⟨v1,v2,rfl,Num.only kR k1 ho2,Num.only kR k2 ho2,(hb.trans (ho.below hw1)).trans (ho2.below hw2)⟩
theorem cfL (r:Rat) (l:Nat) (hd:r.den=l+1) (hn:r.num.natAbs<B) (hdB:r.den<B) (w:World) :
 Calls Tryz.prog 136 #[lo (neg? r) r.num.natAbs l] w (cal w (r.num:Rat) (((r.den:Nat):Int):Rat)):=by
 have HBo:=hid (fun W=>kH (neg? r) r.num.natAbs l none (hd▸hdB) W);have HS1:=hid (fun W=>show Calls Tryz.prog 96 #[.bool (neg? r),u r.num.natAbs,.int .u64 1] W (uF W (r.num:Rat)) from(yP (neg? r) r.num.natAbs 1 (by decide) W).mono (fun e W' h=>⟨_,h.1,by
  unfold IsQ;rw[num_intCast,Rat.den_intCast];have e0:(neg? r&&!decide (r.num.natAbs=0))=decide (r.num<0):=by unfold neg?;rw[Bool.eq_iff_iff];simp;intro h e;rw[e] at h;simp at h
  rw[e0];exact Num.low 0 rfl rfl hn (by decide),h.2⟩))
 have HS2:=hid (fun W=>show Calls Tryz.prog 96 #[.bool false,u r.den,.int .u64 1] W (uF W (((r.den:Nat):Int):Rat)) from(yP false r.den 1 (by decide) W).mono (fun e W' h=>⟨_,h.1,by
  unfold IsQ;rw[num_intCast,Rat.den_intCast];have e0:(false&&!decide (r.den=0))=decide (((r.den:Nat):Int)<0):=by rw[Bool.eq_iff_iff];simp
  rw[e0,Int.natAbs_natCast];exact Num.low 0 rfl rfl hdB (by decide),h.2⟩))
 rw[← hd] at HBo;clear hd hn hdB;generalize (r.num:Rat)=s at *;generalize (((r.den:Nat):Int):Rat)=t at *;generalize neg? r=sg at *;generalize r.num.natAbs=n at *;generalize r.den=d at *
 go_enter Tryz.func136,Tryz.ntmps136
 go_wp2_with fail;obtain⟨W0,hW0,hb0,⟨f0,f1,f2,f3⟩,hz1,hz2⟩:=box3z w (.bool sg) (u n) (u l) (.pointer none);rw[← hW0];clear hW0;have HZ1:=hid hz1;have HZ2:=hid hz2;have HW0:=hid hb0;have hb0:=Below.refl W0.heap.size W0;have n1:¬ w.heap.size=w.heap.size+1:=by omega
 have n2:¬ w.heap.size+1=w.heap.size:=by omega
 have n3:¬ w.heap.size=w.heap.size+1+1:=by omega
 have n4:¬ w.heap.size+1+1=w.heap.size:=by omega
 have n5:¬ w.heap.size+1=w.heap.size+1+1:=by omega
 have n6:¬ w.heap.size+1+1=w.heap.size+1:=by omega
 clear hz1 hz2
 go_region_held3 (fun w'=>(w'.cell? ⟨w.heap.size,0,none⟩=some (.bool sg)/\w'.cell? ⟨w.heap.size,1,none⟩=some (u n)/\w'.cell? ⟨w.heap.size,2,none⟩=some (u l)/\w'.cell? ⟨w.heap.size,3,none⟩=some (.pointer none))) (go_keep) (first|((with_reducible refine(HBo.out _).mono ?_);rintro e W2 ⟨rfl,hb⟩;(have hh:=Cu (b:=w.heap.size) hb f0 f1 f2 f3;clear f0 f1 f2 f3;obtain⟨f0,f1,f2,f3⟩:=hh);have hv1:=hv1.below hb (le_refl _);have hb0:Below W0.heap.size W0 W2:=(by first|exact jP hb0 hb|exact cf hb0 hb);clear hb)|((with_reducible refine(HS1.out _).mono ?_);rintro e W1 ⟨v1,rfl,hv1,hb⟩;obtain⟨sg1,a1,b1,p1,rfl⟩:=hv1.form;(have hh:=Cu (b:=w.heap.size) hb f0 f1 f2 f3;clear f0 f1 f2 f3;obtain⟨f0,f1,f2,f3⟩:=hh);have hb0:Below W0.heap.size W0 W1:=(by first|exact jP hb0 hb|exact cf hb0 hb);clear hb)|((with_reducible refine(HS2.out _).mono ?_);rintro e W3 ⟨v2,rfl,hv2,hb⟩;obtain⟨sg2,a2,b2,p2,rfl⟩:=hv2.form;(have hh:=Cu (b:=w.heap.size) hb f0 f1 f2 f3;clear f0 f1 f2 f3;obtain⟨f0,f1,f2,f3⟩:=hh);have hv1:=hv1.below hb (le_refl _);have hb0:Below W0.heap.size W0 W3:=(by first|exact jP hb0 hb|exact cf hb0 hb);(have hz:=HZ1.out.below hb0 (le_refl _);have zf:=hz.frozen;obtain⟨y0,y1,y2,y3⟩:=hz.cells;have yf0:=zf 0;have yf1:=zf 1;have yf2:=zf 2;have yf3:=zf 3;clear zf hz);(have hz:=HZ2.out.below hb0 (le_refl _);have zf:=hz.frozen;obtain⟨z0,z1,z2,z3⟩:=hz.cells;have zf0:=zf 0;have zf1:=zf 1;have zf2:=zf 2;have zf3:=zf 3;clear zf hz);clear hb))
 have hfin:=ceQ (a0:=.bool sg1) (a1:=u a1) (a2:=u b1) (a3:=.pointer p1) (b0:=.bool sg2) (b1:=u a2) (b2:=u b2) (b3:=.pointer p2) (HZ1.out.below hb0 (le_refl _)) (HZ2.out.below hb0 (le_refl _)) hv1 hv2 (cf HW0.out hb0) (by omega) (by omega) (by omega);have HFin:=hid hfin;clear hfin hv1 hv2 hb0 f0 f1 f2 f3;go_wp2_with fail;refine bodyPost_ret (v:=.tuple #[.agg #[.bool sg1,u a1,u b1,.pointer p1],.agg #[.bool sg2,u a2,u b2,.pointer p2]]) (by simp [results,Tryz.results136,go_sem,z0,z1,z2,z3,y0,y1,y2,y3]) rfl ?_;exact HFin.out
theorem cdD (r:Rat) (b:Nat) (x y:Value) (w:World) (hx:w.cell? ⟨b,0,none⟩=some x) (hy:w.cell? ⟨b,1,none⟩=some y) (h1:cg w x r.num.natAbs) (h2:cg w y r.den) :
 Calls Tryz.prog 136 #[wi (neg? r) ⟨b,0,none⟩] w (cal w (r.num:Rat) (((r.den:Nat):Int):Rat)):=by
 have HW1:=hid (fun W (hW:Below w.heap.size w W)=>(YG (neg? r) x _ W (h1.below hW (le_refl _))).mono fun e W' h=>h.q (r:=(r.num:Rat)) (by rw[num_intCast];exact(uv _).symm) (by rw[Rat.den_intCast]));have HW2:=hid (fun W (hW:Below w.heap.size w W)=>(YG false y _ W (h2.below hW (le_refl _))).mono fun e W' h=>h.q (r:=(((r.den:Nat):Int):Rat)) (by rw[num_intCast];rfl) (by rw[Rat.den_intCast]));obtain⟨xa,xl,xc,rfl,_⟩:=h1.form;obtain⟨ya,yl,yc,rfl,_⟩:=h2.form;clear h1 h2;generalize (r.num:Rat)=s at *;generalize (((r.den:Nat):Int):Rat)=t at *;generalize neg? r=sg at *
 go_enter Tryz.func136,Tryz.ntmps136
 go_wp2_with fail;have m1:¬ b=w.heap.size+1:=by have:=World.block_lt_of_cell? w _ hx;simp at this;omega
 have m2:¬ w.heap.size+1=b:=fun h=>m1 h.symm;have m3:¬ b=w.heap.size+1+1:=by have:=World.block_lt_of_cell? w _ hx;simp at this;omega
 have m4:¬ w.heap.size+1+1=b:=fun h=>m3 h.symm;obtain⟨W0,hW0,hb0,⟨f0,f1,f2,f3⟩,hz1,hz2⟩:=box3z w (.bool sg) (u 0) (u 0) (.pointer (some ⟨b,0,none⟩));rw[← hW0];clear hW0;have HZ1:=hid hz1;have HZ2:=hid hz2;have HW0:=hid hb0;have hb0:=Below.refl W0.heap.size W0;have n1:¬ w.heap.size=w.heap.size+1:=by omega
 have n2:¬ w.heap.size+1=w.heap.size:=by omega
 have n3:¬ w.heap.size=w.heap.size+1+1:=by omega
 have n4:¬ w.heap.size+1+1=w.heap.size:=by omega
 have n5:¬ w.heap.size+1=w.heap.size+1+1:=by omega
 have n6:¬ w.heap.size+1+1=w.heap.size+1:=by omega
 clear hz1 hz2;have hx:W0.cell? ⟨b,0,none⟩=some (.slice xa xl xc):=(HW0.out.cell (p:=⟨b,0,none⟩) (World.block_lt_of_cell? w _ hx)).trans hx;have hy:W0.cell? ⟨b,1,none⟩=some (.slice ya yl yc):=(HW0.out.cell (p:=⟨b,1,none⟩) (World.block_lt_of_cell? w _ hy)).trans hy
 go_region_held3 (fun w'=>(w'.cell? ⟨w.heap.size,0,none⟩=some (.bool sg)/\w'.cell? ⟨w.heap.size,3,none⟩=some (.pointer (some ⟨b,0,none⟩)))/\w'.cell? ⟨b,0,none⟩=some (.slice xa xl xc)/\w'.cell? ⟨b,1,none⟩=some (.slice ya yl yc)) (go_keep) (first|((with_reducible refine(HW1.out _ (HW0.out.drew)).mono ?_);rintro e W1 ⟨v1,rfl,hv1,hb⟩;obtain⟨sg1,a1,b1,p1,rfl⟩:=hv1.form;(have hh:=Cu (b:=w.heap.size) hb f0 f1 f2 f3;clear f0 f1 f2 f3;obtain⟨f0,f1,f2,f3⟩:=hh);have hb0:Below W0.heap.size W0 W1:=(by first|exact jP hb0 hb|exact cf hb0 hb);have hx:=(hb0.cell (p:=⟨b,0,none⟩) (World.block_lt_of_cell? W0 _ hx)).trans hx;have hy:=(hb0.cell (p:=⟨b,1,none⟩) (World.block_lt_of_cell? W0 _ hy)).trans hy;clear hb)|((with_reducible refine(HW2.out _ (cf HW0.out hb0)).mono ?_);rintro e W3 ⟨v2,rfl,hv2,hb⟩;obtain⟨sg2,a2,b2,p2,rfl⟩:=hv2.form;(have hh:=Cu (b:=w.heap.size) hb f0 f1 f2 f3;clear f0 f1 f2 f3;obtain⟨f0,f1,f2,f3⟩:=hh);have hv1:=hv1.below hb (le_refl _);have hx:=(hb.cell (p:=⟨b,0,none⟩) (World.block_lt_of_cell? W1 _ hx)).trans hx;have hy:=(hb.cell (p:=⟨b,1,none⟩) (World.block_lt_of_cell? W1 _ hy)).trans hy;have hb0:Below W0.heap.size W0 W3:=(by first|exact jP hb0 hb|exact cf hb0 hb);(have hz:=HZ1.out.below hb0 (le_refl _);have zf:=hz.frozen;obtain⟨y0,y1,y2,y3⟩:=hz.cells;have yf0:=zf 0;have yf1:=zf 1;have yf2:=zf 2;have yf3:=zf 3;clear zf hz);(have hz:=HZ2.out.below hb0 (le_refl _);have zf:=hz.frozen;obtain⟨z0,z1,z2,z3⟩:=hz.cells;have zf0:=zf 0;have zf1:=zf 1;have zf2:=zf 2;have zf3:=zf 3;clear zf hz);clear hb))
 have hfin:=ceQ (a0:=.bool sg1) (a1:=u a1) (a2:=u b1) (a3:=.pointer p1) (b0:=.bool sg2) (b1:=u a2) (b2:=u b2) (b3:=.pointer p2) (HZ1.out.below hb0 (le_refl _)) (HZ2.out.below hb0 (le_refl _)) hv1 hv2 (cf HW0.out hb0) (by omega) (by omega) (by omega);have HFin:=hid hfin;clear hfin hv1 hv2 hb0 f0 f1 f2 f3;go_wp2_with fail;refine bodyPost_ret (v:=.tuple #[.agg #[.bool sg1,u a1,u b1,.pointer p1],.agg #[.bool sg2,u a2,u b2,.pointer p2]]) (by simp [results,Tryz.results136,go_sem,z0,z1,z2,z3,y0,y1,y2,y3]) rfl ?_;exact HFin.out
theorem parts_q (v:Value) (r:Rat) (w:World) (h:IsQ w v r) :
 Calls Tryz.prog 136 #[v] w (cal w (r.num:Rat) (((r.den:Nat):Int):Rat)):=by
 cases h with
 |low l hv hd hn hdB=>subst hv;exact cfL r l hd hn hdB w
 |wide b x y hv hx hy h1 h2 hB h0 hd=>subst hv;exact cdD r b x y w hx hy h1 h2
end Go.Proofs.YtokieocpdcngcaaGreatDoor
