/- Part 10. -/
import Derived.Test.YtolcmngcebnjdaaGreatDoorW7
import Derived.Test.YtolcmngcebnjdaaGreatDoorW8
import Derived.Test.YtolcmngcebnjdaaGreatDoorW9
import Derived.Laws.CopyOwn
set_option linter.all false
open Go.Lib (hid)
open List (append_assoc drop_zero length_map length_take nil_append take_length)
open Nat (add_mul eq_zero_or_pos le_refl lt_of_lt_of_le min_eq_left mul_assoc mul_le_mul_left mul_one one_mul pow_add pow_le_pow_right pow_succ zero_add zero_le)

namespace Go.Proofs.YtolcmngcebnjdaaGreatDoor
open Go Go.RowKit Go.Proofs Lim
theorem ces {xs:List Nat}(ht:Zp xs) (hv:val xs=1):xs=[1]:=by
 have hl:=cr.len (k:=1) ht hv (by decide);rcases xs with _|⟨x,_|⟨y,xs⟩⟩
 ·simp [val] at hv
 ·simp [val] at hv;rw[hv]
 ·simp at hl
theorem cbe (v:Value) (n:Nat) (w:World) (h:cr w v n) :
 Calls Tryz.prog 181 #[v] w (fun e w'=>e=.returned (.bool (decide (n=1)))/\w=w'):=by
 obtain⟨xs,⟨⟨xa,xc,rfl,h1,h2,hr⟩,ok⟩,ht,rfl⟩:=h;unfold maxLen at h2;by_cases hl:xs.length=1
 ·obtain⟨x,rfl⟩:∃ x,xs=[x]:=by
   rcases xs with _|⟨x,_|⟨z,xs⟩⟩
   ·simp at hl
   ·exact⟨x,rfl⟩
   ·simp at hl
  obtain⟨b,o,rfl,row⟩:=hr (by simp);have cx:w.cell? ⟨b,o,none⟩=some (u x):=row 0 (by simp);have hv:val [x]=x:=by simp [val]
  rw[hv];clear hv row hr ok ht hl;simp only[List.length_singleton] at *;have hb:(((x:Nat):Int) == 1)=decide (x=1):=by rw[Bool.eq_iff_iff];simp;omega
  go_enter Tryz.func181,Tryz.ntmps181
  go_wp2_with fail
  go_ret
  exact⟨rfl,rfl⟩
 ·have hb:(((xs.length:Nat):Int) == 1)=false:=by rw[beq_eq_false_iff_ne];omega
  have hn:decide (val xs=1)=false:=by
   rw[decide_eq_false_iff_not];intro e;have:=ces ht e;subst this;exact hl rfl
  rw[hn];clear hr ok ht hl hn
  go_enter Tryz.func181,Tryz.ntmps181
  go_wp2_with fail
  go_ret
  exact⟨rfl,rfl⟩
theorem Ks (v:Value) (n:Nat) (w:World) (h:cr w v n) (hn:n=1) :
 Calls Tryz.prog 181 #[v] w (fun e w'=>e=.returned (.bool true)/\w=w'):=by
 have:=cbe v n w h
 rwa [decide_eq_true hn] at this
theorem Jv (v:Value) (n:Nat) (w:World) (h:cr w v n) (hn:¬ n=1) :
 Calls Tryz.prog 181 #[v] w (fun e w'=>e=.returned (.bool false)/\w=w'):=by
 have:=cbe v n w h
 rwa [decide_eq_false hn] at this
theorem cfQ (n:Nat):(madeCells #[Value.int .u64 0] n).toList=(List.replicate n 0).map u:=by
 have h:(fun x=>(#[Value.int .u64 0]:Array Value)[x%1]!)=fun _=>u 0:=by funext x;simp [Nat.mod_one]
 show ((Array.range n).map (fun x=>(#[Value.int .u64 0]:Array Value)[x%1]!)).toList=_;rw[h];simp [List.map_const']
theorem EC {w w1:World}{n:Nat}(hown:w1.ownsRow w.heap.size 36 1 (.slice (some ⟨w.heap.size,0,none⟩) n n) n (madeCells #[Value.int .u64 0] n).toList)
 (hgrow:w.grownBy w1 none):Blk w1 w.heap.size (List.replicate n 0)/\Below w.heap.size w w1:=by
 rw[cfQ] at hown;obtain⟨b,cap,hv,hb,hB,hl,h1,h2⟩:=Blk.of_owned hown (by simp);injection hv with hv1 hv2 hv3
 injection hv1 with hv1
 injection hv1 with hv1
 subst hv1;exact⟨hB,(Below.refl _ w).grown hgrow (le_refl _) (by intro k hk;cases hk)⟩
theorem ceb:(Tryz.prog.info? 36).map (·.size)=some 1:=by kernel_rfl
theorem ceq (xs:List Nat) (r:Nat) (T:List Value):splice ((List.replicate (xs.length+r) 0).map u++T) 0 (xs.map u)=(xs++List.replicate r 0).map u++T:=by
 simp only[splice,List.take_zero,nil_append,zero_add,length_map,List.map_append,append_assoc,List.map_replicate];rw[List.drop_append_of_le_length (by simp)];simp
theorem Wt (xs:List Nat) (T:List Value):splice (List.replicate (xs.length+1) (u 0)++T) 0 (xs.map u)=(xs++[0]).map u++T:=by
 have:=ceq xs 1 T;rw[List.map_replicate] at this;exact this
theorem cgW {w:World}{xa:Option Addr}{xs:List Nat}(h:0<xs.length->∃ b off,xa=some ⟨b,off,none⟩/\Row w b off xs) {w1:World}{N:Nat}(hb:Below N w w1) (hN:w.heap.size<=N) :
 0<(xs.map u).length->∃ ad,xa=some ad/\∀ j v,(xs.map u)[j]?=some v->w1.cell? (ad.add j)=some v:=by
 intro hp;rw[length_map] at hp;obtain⟨b,off,rfl,hr⟩:=h hp;refine⟨_,rfl,fun j v hv=>?_⟩;have hj:j<xs.length:=by have:=(List.getElem?_eq_some_iff.1 hv).1;simpa using this
 rw[Addr.add_lit];rw[(hr.below hb (lt_of_lt_of_le (hr.lt hp) hN)) j hj];rw[List.getElem?_map,List.getElem?_eq_getElem hj] at hv;rw[List.getElem?_eq_getElem hj];exact hv
theorem Uv {w:World}{xa:Option Addr}{xs:List Nat}(h:0<xs.length->∃ b off,xa=some ⟨b,off,none⟩/\Row w b off xs) {w1:World}{N:Nat}(hb:Below N w w1) (hN:w.heap.size<=N) :
 0<xs.length->∃ b off,xa=some ⟨b,off,none⟩/\b≠w.heap.size/\Row w1 b off xs:=by
 intro hp;obtain⟨b,off,rfl,hr⟩:=h hp;have:=hr.lt hp;exact⟨b,off,rfl,by omega,hr.below hb (by omega)⟩
theorem ZT:2<=B:=by decide
theorem ceF {xs ys L':List Nat}{c:Nat}(h:Cy (xs++[0]) L' 0 (xs.length+1) (val ys) c) :
 val L'+B^xs.length*B*c=val xs+val ys:=by
 have h1:=h.sum;have e:val (xs++[0])=val xs:=by rw[GE,ckz,val_nil];simp
 rw[zero_add,Nat.pow_zero,one_mul,e,pow_succ] at h1;exact h1
theorem ckh (P Q V X Y c:Nat) (Bs:Nat) (h1:V+P*Bs*c=X+Y) (hX:X<P) (hY:Y<Q) (h4:Q<=P) (h2:2<=Bs):V=X+Y:=by
 rcases eq_zero_or_pos c with h0|h0
 ·subst h0;simpa using h1
 ·have h5:P*2<=P*Bs:=mul_le_mul_left _ h2;have h6:P*Bs*1<=P*Bs*c:=mul_le_mul_left _ h0;omega
theorem cal {xs ys L':List Nat}{c:Nat}(h:Cy (xs++[0]) L' 0 (xs.length+1) (val ys) c) (ok1:Ok xs) (ok2:Ok ys) (hl:ys.length<=xs.length) :
 val L'=val xs+val ys :=
 ckh _ _ _ _ _ _ _ (ceF h) (kb ok1) (kb ok2) (pow_le_pow_right jJ hl) ZT
theorem cdt (v1 v2:Value) (m n k:Nat) (w:World) (h1:cr w v1 m) (h2:cr w v2 n) (hm:m<B^k) (hn:n<B^k) (hk:(k:Int)<=1073741824) :
 Calls Tryz.prog 159 #[v1,v2] w (Je w (m+n)):=by
 obtain⟨xs,s1,t1,e1⟩:=h1;obtain⟨ys,s2,t2,e2⟩:=h2;have lx:=cr.len t1 e1 hm;have ly:=cr.len t2 e2 hn;obtain⟨⟨xa,xc,rfl,hc1,hc2,hr1⟩,ok1⟩:=s1;obtain⟨⟨ya,yc,rfl,hd1,hd2,hr2⟩,ok2⟩:=s2;obtain⟨i0,hi,hz0,hz1,hz2⟩:=info_parts Es;unfold maxLen at hc2 hd2;by_cases hl:xs.length<ys.length
 ·have HR2:=hid hr2;have HR1:=hid hr1;have HO2:=hid ok2;have HO1:=hid ok1;have HE2:=hid e2;have HE1:=hid e1;clear hr2 hr1 ok2 ok1 e2 e1 t1 t2 hm hn
  go_enter Tryz.func159,Tryz.ntmps159
  go_wp2_with (at_make;refine wpList_make_full _ rfl _ _ 173 rfl w.heap.size 36 i0 (.int .u64 0) 1 Tryz.underlying173 hi hz0 hz1 _ _ _ _ (ys.length+1) rfl rfl (by omega) (by omega) ?qd2 ?qd3 ?qd4 ?_)
  case qd2=>rw[hz2];omega
  case qd3=>unfold maxLen;omega
  case qd4=>exact le_refl _
  intro w1 hown hgrow;obtain⟨hB1,hbel⟩:=EC hown hgrow;clear hown hgrow;obtain⟨T,hT⟩:=hB1;have HT:=hid hT;have HBel:=hid hbel;clear hT hbel;go_wp2_with (with_reducible refine wpList_copy_splice rfl (.tmp 17) (.tmp 18) 173 174 rfl 36 Tryz.underlying173 ceb _ _ _ _ _ _ rfl rfl w.heap.size 0 _ _ HT.out (ys.map u) ?qe1 ?qe2 ?qe3 ?qe4 w.heap.size w HBel.out (le_refl _) ?_)
  case qe1=>simp
  case qe2=>simpa using cgW HR2.out HBel.out (le_refl _)
  case qe3=>simp;omega
  case qe4=>intro v hv;obtain⟨x,_,rfl⟩:=List.mem_map.1 hv;rfl
  intro w2 hT2 hbel2;have hB2:Blk w2 w.heap.size (ys++[0]):=⟨T,by have:=hT2.out;rw[this,Wt ys T]⟩;clear hT2 HT HBel;have HB2:=hid hB2;have HBel2:=hid hbel2;clear hB2 hbel2;go_wp2_with fail;refine(CE w.heap.size 0 (ys.length+1) _ _ (ys++[0]) xs xa w2 HB2.out (by simp) (by omega) (by omega) (HO2.out.append (Ok.nil.cons jJ)) HO1.out (Uv HR1.out HBel2.out (le_refl _))).mono ?_;rintro e w3 ⟨rfl,hO3,c,L',hB3,hA⟩;have hv:=cal hA HO2.out HO1.out (by omega);have hlen:L'.length=ys.length+1:=by rw[hA.len];simp
  have hs:=Sl.of_blk hB3 hA.ok 0 (ys.length+1) (ys.length+1) (by omega) (le_refl _) (by unfold maxLen;omega);rw[drop_zero,← hlen,take_length,hlen] at hs;have hb3:Below w.heap.size w w3:=HBel2.out.trans (hO3.below (le_refl _));have HS:=hid hs;have HB3:=hid hb3;have HV:=hid hv;have HLen:=hid hlen;clear hs hb3 hv hlen hA hB3 hO3;go_wp2_with fail;refine(ym L' _ _ HS.out (by rw[HLen.out];omega)).mono ?_;rintro e w4 ⟨v,rfl,hnat,rfl⟩;have HN:=hid hnat;clear hnat;go_wp2_with fail
  go_ret
  refine⟨v,rfl,?_,HB3.out⟩;have:=HN.out;rw[HV.out,HE2.out,HE1.out,Nat.add_comm] at this;exact this
 ·have HR1:=hid hr1;have HR2:=hid hr2;have HO1:=hid ok1;have HO2:=hid ok2;have HE1:=hid e1;have HE2:=hid e2;clear hr1 hr2 ok1 ok2 e1 e2 t1 t2 hm hn
  go_enter Tryz.func159,Tryz.ntmps159
  go_wp2_with (at_make;refine wpList_make_full _ rfl _ _ 173 rfl w.heap.size 36 i0 (.int .u64 0) 1 Tryz.underlying173 hi hz0 hz1 _ _ _ _ (xs.length+1) rfl rfl (by omega) (by omega) ?qb2 ?qb3 ?qb4 ?_)
  case qb2=>rw[hz2];omega
  case qb3=>unfold maxLen;omega
  case qb4=>exact le_refl _
  intro w1 hown hgrow;obtain⟨hB1,hbel⟩:=EC hown hgrow;clear hown hgrow;obtain⟨T,hT⟩:=hB1;have HT:=hid hT;have HBel:=hid hbel;clear hT hbel;go_wp2_with (with_reducible refine wpList_copy_splice rfl (.tmp 17) (.tmp 18) 173 174 rfl 36 Tryz.underlying173 ceb _ _ _ _ _ _ rfl rfl w.heap.size 0 _ _ HT.out (xs.map u) ?qc1 ?qc2 ?qc3 ?qc4 w.heap.size w HBel.out (le_refl _) ?_)
  case qc1=>simp
  case qc2=>simpa using cgW HR1.out HBel.out (le_refl _)
  case qc3=>simp;omega
  case qc4=>intro v hv;obtain⟨x,_,rfl⟩:=List.mem_map.1 hv;rfl
  intro w2 hT2 hbel2;have hB2:Blk w2 w.heap.size (xs++[0]):=⟨T,by have:=hT2.out;rw[this,Wt xs T]⟩;clear hT2 HT HBel;have HB2:=hid hB2;have HBel2:=hid hbel2;clear hB2 hbel2;go_wp2_with fail;refine(CE w.heap.size 0 (xs.length+1) _ _ (xs++[0]) ys ya w2 HB2.out (by simp) (by omega) (by omega) (HO1.out.append (Ok.nil.cons jJ)) HO2.out (Uv HR2.out HBel2.out (le_refl _))).mono ?_;rintro e w3 ⟨rfl,hO3,c,L',hB3,hA⟩;have hv:=cal hA HO1.out HO2.out (by omega);have hlen:L'.length=xs.length+1:=by rw[hA.len];simp
  have hs:=Sl.of_blk hB3 hA.ok 0 (xs.length+1) (xs.length+1) (by omega) (le_refl _) (by unfold maxLen;omega);rw[drop_zero,← hlen,take_length,hlen] at hs;have hb3:Below w.heap.size w w3:=HBel2.out.trans (hO3.below (le_refl _));have HS:=hid hs;have HB3:=hid hb3;have HV:=hid hv;have HLen:=hid hlen;clear hs hb3 hv hlen hA hB3 hO3;go_wp2_with fail;refine(ym L' _ _ HS.out (by rw[HLen.out];omega)).mono ?_;rintro e w4 ⟨v,rfl,hnat,rfl⟩;have HN:=hid hnat;clear hnat;go_wp2_with fail
  go_ret
  refine⟨v,rfl,?_,HB3.out⟩;have:=HN.out;rw[HV.out,HE1.out,HE2.out] at this;exact this
theorem ceS {xs ys L L':List Nat}{k c:Nat}(hv:val L=val (xs.take k)*val ys) (hk:k<xs.length) (hL:L.length=xs.length+ys.length)
 (h:Cy L L' k (xs.length+ys.length-k) (xs[k]?.getD 0*val ys) c) (ok1:Ok xs) (ok2:Ok ys):val L'=val (xs.take (k+1))*val ys:=by
 have h1:=h.sum;have e:val (xs.take (k+1))*val ys=val L+B^k*(xs[k]?.getD 0*val ys):=by
  rw[jm xs k hk,add_mul,hv,mul_assoc]
 rw[← e] at h1;have hlt:val (xs.take (k+1))*val ys<B^(xs.length+ys.length):=by
  have h2:=kb (ok1.take (k+1));rw[length_take,min_eq_left (by omega)] at h2;have h3:=kb ok2;have h4:val (xs.take (k+1))*val ys<B^(k+1)*B^ys.length:=Nat.mul_lt_mul'' h2 h3;have h5:B^(k+1)*B^ys.length<=B^(xs.length+ys.length):=by
   rw[← pow_add];exact pow_le_pow_right jJ (by omega)
  omega
 rw[show k+(xs.length+ys.length-k)=xs.length+ys.length from by omega] at h1;rcases eq_zero_or_pos c with h0|h0
 ·subst h0;simpa using h1
 ·have:B^(xs.length+ys.length)*1<=B^(xs.length+ys.length)*c:=mul_le_mul_left _ h0;omega
set_option maxRecDepth 100000 in
theorem cfW (v1 v2:Value) (m n k:Nat) (w:World) (h1:cr w v1 m) (h2:cr w v2 n) (hm:m<B^k) (hn:n<B^k) (hk:(k:Int)<=1073741824) (o1:¬ m=1) (o2:¬ n=1) :
 Calls Tryz.prog 146 #[v1,v2] w (Je w (m*n)):=by
 have HI1:=hid (Jv v1 m w h1 o1);have HI2:=hid (Jv v2 n w h2 o2);clear o1 o2;obtain⟨xs,s1,t1,e1⟩:=h1;obtain⟨ys,s2,t2,e2⟩:=h2;have lx:=cr.len t1 e1 hm;have ly:=cr.len t2 e2 hn;obtain⟨⟨xa,xc,rfl,hc1,hc2,hr1⟩,ok1⟩:=s1;obtain⟨⟨ya,yc,rfl,hd1,hd2,hr2⟩,ok2⟩:=s2;obtain⟨i0,hi,hz0,hz1,hz2⟩:=info_parts Es;unfold maxLen at hc2 hd2;have HR1:=hid hr1;have HR2:=hid hr2;have HO1:=hid ok1;have HO2:=hid ok2;have HE1:=hid e1;have HE2:=hid e2;clear hr1 hr2 ok1 ok2 e1 e2 t1 t2 hm hn;obtain⟨N,hN⟩:∃ N,N=xs.length+ys.length:=⟨_,rfl⟩;have HN:=hid hN;have hNmax:(N:Int)<=2147483648:=by omega
 clear hN
 go_enter Tryz.func146,Tryz.ntmps146
 go_wp2_with fail;refine HI1.out.mono ?_;rintro e w1 ⟨rfl,rfl⟩;go_wp2_with fail;refine HI2.out.mono ?_;rintro e w1 ⟨rfl,rfl⟩;clear HI1 HI2;go_wp2_with (at_make;refine wpList_make_full _ rfl _ _ 173 rfl w.heap.size 36 i0 (.int .u64 0) 1 Tryz.underlying173 hi hz0 hz1 _ _ _ _ N rfl rfl (by have:=HN.out;omega) (by have:=HN.out;omega) ?qb2 ?qb3 ?qb4 ?_)
 case qb2=>rw[hz2];omega
 case qb3=>unfold maxLen;omega
 case qb4=>exact le_refl _
 intro w1 hown hgrow;obtain⟨hB1,hbel⟩:=EC hown hgrow;clear hown hgrow;have HB1:=hid hB1;have HBel:=hid hbel;clear hB1 hbel;go_wp2_with fail
 go_loopw [21] (fun i wr=>∃ k L,k<=xs.length/\i=.int .i64 (k:Int)/\Hid (Blk wr w.heap.size L/\L.length=N/\Ok L/\val L=val (xs.take k)*val ys)/\Hid (Below w.heap.size w wr)) (fun i _=>xs.length-(intOf i).toNat)
 case atStart=>exact⟨0,_,zero_le _,rfl,⟨HB1.out,by simp,Ok.replicate _,by rw[Cs];simp [val]⟩,HBel.out⟩
 case round =>
  obtain⟨k,L,hk,rfl,hL,hBe⟩:=hrel;by_cases hlt:k<xs.length
  ·obtain⟨xb,xo,rfl,hxrow⟩:=HR1.out (by omega);have hxb:=hxrow.lt (by omega);have hxc:wr.cell? ⟨xb,xo+k,none⟩=some (u (xs[k]?.getD 0)):=(hBe.out.cell (p:=⟨xb,xo+k,none⟩) hxb).trans (hxrow k hlt);have hxl:xs[k]?.getD 0<B:=HO1.out.get k;generalize hxg:xs[k]?.getD 0=x at *;have HX:=hid hxg;clear hxg hxrow hi hz0 hz1 hz2;have hkN:(k:Int)<(N:Int):=by have:=HN.out;omega
   have hkN':(k:Int)<=(N:Int):=by omega
   have hk0:(0:Int)<=(k:Int):=by omega
   have hNk:¬ N=k:=by omega
   go_wp2_with fail
   go_region_held3 (fun w'=>w'.cell? ⟨xb,xo+k,none⟩=some (u x)) (go_keep) ((go_at_call 184;refine(CJ w.heap.size k (N-k) _ yc L ys ya x wr.drew (show Blk wr.drew w.heap.size L from hL.out.1) (by have:=hL.out.2.1;omega) (by have:=HN.out;omega) (by omega) hxl hL.out.2.2.1 HO2.out (Uv HR2.out hBe.out.drew (le_refl _))).mono ?_;rintro e w' ⟨rfl,hO,c,L',hB',hA⟩;have hxc':=(hO.cell (p:=⟨xb,xo+k,none⟩) (Nat.ne_of_lt hxb)).trans hxc))
   have HB':=hid hB';have HA:=hid hA;have HO:=hid hO;clear hB' hA hO hxc' hNk;go_wp2_with fail
   go_roundw
   case rel =>
    refine⟨k+1,L',by omega,by go_num,⟨HB'.out,by rw[HA.out.len,hL.out.2.1],HA.out.ok,?_⟩,hBe.out.trans (Below.trans ((Below.refl _ wr).drew) (HO.out.below (le_refl _)))⟩;have hN:=HN.out;have hA2:=HA.out;rw[← HX.out,hN] at hA2;exact ceS hL.out.2.2.2 hlt (by rw[hL.out.2.1,hN]) hA2 HO1.out HO2.out
   case measure=>simp [intOf];omega
  ·obtain rfl:k=xs.length:=by omega
   obtain⟨hb,hl,ho,hv⟩:=hL.out;have hs:=Sl.of_blk hb ho 0 N N (by omega) (le_refl _) (by unfold maxLen;omega);rw[drop_zero,← hl,take_length,hl] at hs;rw[take_length,HE1.out,HE2.out] at hv;have HS:=hid hs;have HV:=hid hv;have HLen:=hid hl;clear hs hv hl hb ho;go_wp2_with fail;refine(ym L _ _ HS.out (by rw[HLen.out];omega)).mono ?_;rintro e w4 ⟨v,rfl,hnat,rfl⟩;have HN2:=hid hnat;clear hnat;go_wp2_with fail
   go_ret
   refine⟨v,rfl,?_,hBe.out⟩;have:=HN2.out;rw[HV.out] at this;exact this
theorem zu (v1 v2:Value) (m n k:Nat) (w:World) (h1:cr w v1 m) (h2:cr w v2 n) (hm:m<B^k) (hn:n<B^k) (hk:(k:Int)<=1073741824) :
 Calls Tryz.prog 146 #[v1,v2] w (Je w (m*n)):=by
 by_cases o1:m=1
 ·have HI1:=hid (Ks v1 m w h1 o1);have H2:=hid h2;subst o1;obtain⟨xs,⟨⟨xa,xc,rfl,_⟩,_⟩,_⟩:=h1;obtain⟨ys,⟨⟨ya,yc,rfl,_⟩,_⟩,_⟩:=h2;clear hm hn hk
  go_enter Tryz.func146,Tryz.ntmps146
  go_wp2_with fail;refine HI1.out.mono ?_;rintro e w1 ⟨rfl,rfl⟩;go_wp2_with fail
  go_ret
  refine⟨_,rfl,?_,Below.refl _ _⟩;rw[one_mul];exact H2.out
 ·by_cases o2:n=1
  ·have HI1:=hid (Jv v1 m w h1 o1);have HI2:=hid (Ks v2 n w h2 o2);have H1:=hid h1;subst o2;obtain⟨xs,⟨⟨xa,xc,rfl,_⟩,_⟩,_⟩:=h1;obtain⟨ys,⟨⟨ya,yc,rfl,_⟩,_⟩,_⟩:=h2;clear hm hn hk o1
   go_enter Tryz.func146,Tryz.ntmps146
   go_wp2_with fail;refine HI1.out.mono ?_;rintro e w1 ⟨rfl,rfl⟩;go_wp2_with fail;refine HI2.out.mono ?_;rintro e w1 ⟨rfl,rfl⟩;go_wp2_with fail
   go_ret
   refine⟨_,rfl,?_,Below.refl _ _⟩;rw[mul_one];exact H1.out
  ·exact cfW v1 v2 m n k w h1 h2 hm hn hk o1 o2
theorem UD (ao ya:Option Addr) (c yc:Nat) (w:World) :
 Calls Tryz.prog 216 #[.slice ao 0 c,.slice ya 0 yc,.int .u64 1] w fun e w'=>e=.returned (.int .u64 0)/\w=w':=by
 go_enter Tryz.func216,Tryz.ntmps216
 go_wp2_with fail;refine wp_loop_rounds 1 ?_;rw[rounds_succ];go_wp2_with fail;refine wp_loop_rounds 1 ?_;rw[rounds_succ];go_wp2_with fail
 go_ret
 exact⟨rfl,rfl⟩
theorem chE (P V X Y c:Nat) (h1:V+Y=X+P*c) (hV:V<P) (h:Y<=X):V=X-Y:=by
 rcases eq_zero_or_pos c with h0|h0
 ·subst h0;omega
 ·have h6:P*1<=P*c:=mul_le_mul_left _ h0;omega
theorem cit {L L':List Nat}{x c n:Nat}(h:zD L L' 0 n x c) (hn:L.length=n) (hle:x<=val L):val L'=val L-x:=by
 have h1:=h.sum;rw[zero_add,Nat.pow_zero,one_mul] at h1;have h2:=kb h.ok;rw[h.len,hn] at h2;exact chE _ _ _ _ _ h1 h2 hle
theorem rows_at {w:World}{a:Addr}{xs:List Nat}(h:0<xs.length->∃ b off,some a=some ⟨b,off,none⟩/\Row w b off xs):∀ j,j<xs.length->w.cell? (a.add j)=some (u (xs[j]?.getD 0)):=by
 intro j hj;obtain⟨b,off,ha,hr⟩:=h (by omega);injection ha with ha
 subst ha;rw[Addr.add_lit];exact hr j hj
theorem ciY {w:World}{xa:Option Addr}{xs:List Nat}(h:0<xs.length->∃ b off,xa=some ⟨b,off,none⟩/\Row w b off xs) {w1:World}{N c:Nat}(hb:Below N w w1) (hN:w.heap.size<=N) (hc:w.heap.size<=c) :
 0<xs.length->∃ b off,xa=some ⟨b,off,none⟩/\b≠c/\Row w1 b off xs:=by
 intro hp;obtain⟨b,off,rfl,hr⟩:=h hp;have:=hr.lt hp;exact⟨b,off,rfl,by omega,hr.below hb (by omega)⟩
theorem caD (v1 v2:Value) (m n k:Nat) (w:World) (h1:cr w v1 m) (h2:cr w v2 n) (hm:m<B^k) (hnm:n<=m) (hk:(k:Int)<=1073741824) :
 Calls Tryz.prog 183 #[v1,v2] w (Je w (m-n)):=by
 obtain⟨xs,s1,t1,e1⟩:=h1;obtain⟨ys,s2,t2,e2⟩:=h2;have lx:=cr.len t1 e1 hm;have ly:ys.length<=xs.length:=yM t2 s1.ok (by omega);obtain⟨⟨xa,xc,rfl,hc1,hc2,hr1⟩,ok1⟩:=s1;obtain⟨⟨ya,yc,rfl,hd1,hd2,hr2⟩,ok2⟩:=s2;unfold maxLen at hc2 hd2;rcases xa with _|a
 ·have hx0:xs=[]:=by
   rcases xs with _|⟨x,xs⟩
   ·rfl
   ·obtain⟨b,off,h,_⟩:=hr1 (by simp);cases h
  subst hx0;have hy0:ys=[]:=by simpa using ly
  subst hy0;simp only[val] at e1 e2;subst e1;subst e2;clear hr1 hr2 ok1 ok2 t1 t2 hm hnm lx ly
  go_enter Tryz.func183,Tryz.ntmps183
  go_wp2_with fail;refine(chX _ _ _).mono ?_;rintro e w' ⟨rfl,rfl⟩;go_wp2_with fail;refine(UD none ya 0 yc w).mono ?_;rintro e w' ⟨rfl,rfl⟩;go_wp2_with fail;refine(ym [] _ _ (Sl.nil w) (by simp)).mono ?_;rintro e w' ⟨v,rfl,hnat,rfl⟩;have HN:=hid hnat;clear hnat;go_wp2_with fail
  go_ret
  exact⟨v,rfl,HN.out,Below.refl _ _⟩
 ·have HR1:=hid (rows_at hr1);have HR2:=hid hr2;have HO1:=hid ok1;have HO2:=hid ok2;have HE1:=hid e1;have HE2:=hid e2;clear hr1 hr2 ok1 ok2 e1 e2 t1 t2 hm
  go_enter Tryz.func183,Tryz.ntmps183
  go_wp2_with fail;refine(Uy a xs xc w (by omega) HR1.out).mono ?_;rintro e w1 ⟨b,cap,rfl,hb,hB1,hcap1,hcap2,hbel⟩;have HB1:=hid hB1;have HBel:=hid hbel;clear hB1 hbel;go_wp2_with fail;refine(UA b 0 xs.length cap yc xs ys ya w1 HB1.out (by omega) ly (by omega) HO1.out HO2.out (ciY HR2.out HBel.out (le_refl _) hb)).mono ?_;rintro e w3 ⟨c,L',hc,rfl,hO3,hB3,hA⟩;have hv:=cit hA rfl (by rw[HE1.out,HE2.out];exact hnm);have hlen:L'.length=xs.length:=hA.len;have hs:=Sl.of_blk hB3 hA.ok 0 xs.length cap (by omega) hcap1 hcap2;rw[drop_zero,← hlen,take_length,hlen] at hs;have hb3:Below w.heap.size w w3:=HBel.out.trans (hO3.below hb);rw[HE1.out,HE2.out] at hv;have HS:=hid hs;have HB3:=hid hb3;have HV:=hid hv;have HLen:=hid hlen;clear hs hb3 hv hlen hA hB3 hO3;go_wp2_with fail;refine(ym L' _ _ HS.out (by rw[HLen.out];omega)).mono ?_;rintro e w4 ⟨v,rfl,hnat,rfl⟩;have HN:=hid hnat;clear hnat;go_wp2_with fail
  go_ret
  refine⟨v,rfl,?_,HB3.out⟩;have:=HN.out;rw[HV.out] at this;exact this
theorem cjh (P f m g n V1 V2 c c2:Nat) (h1:V1+P*c=f*m) (h2:V2+g*n=V1+P*c2) (hle:g*n<=f*m) (hD:f*m-g*n<P) (hV:V2<P):V2=f*m-g*n:=by
 have h3:V2+P*c=(f*m-g*n)+P*c2:=by omega
 exact(Um h3 hV hD).1
theorem zN (v1 v2:Value) (f g m n k:Nat) (w:World) (h1:cr w v1 m) (h2:cr w v2 n) (hf:f<B) (hg:g<B) (hle:g*n<=f*m)
 (hD:f*m-g*n<=m\/f*m-g*n<=n) (hm:m<B^k) (hn:n<B^k) (hk:(k:Int)<=1073741824) :
 Calls Tryz.prog 211 #[u f,v1,u g,v2] w (Je w (f*m-g*n)):=by
 obtain⟨xs,s1,t1,rfl⟩:=h1;obtain⟨ys,s2,t2,rfl⟩:=h2;have lx:=cr.len t1 rfl hm;have ly:=cr.len t2 rfl hn;obtain⟨⟨xa,xc,rfl,hc1,hc2,hr1⟩,ok1⟩:=s1;obtain⟨⟨ya,yc,rfl,hd1,hd2,hr2⟩,ok2⟩:=s2;unfold maxLen at hc2 hd2;obtain⟨N,hN⟩:∃ N,N=max xs.length ys.length:=⟨_,rfl⟩;have hNx:xs.length<=N:=by omega
 have hNy:ys.length<=N:=by omega
 have hDN:f*val xs-g*val ys<B^N:=by
  have h1:=kb ok1;have h2:=kb ok2;have h3:B^xs.length<=B^N:=pow_le_pow_right jJ hNx;have h4:B^ys.length<=B^N:=pow_le_pow_right jJ hNy;omega
 have hNmax:(N:Int)<=1073741824:=by omega
 have HN:=hid hN;have HDN:=hid hDN;have HLE:=hid hle;have HR1:=hid hr1;have HR2:=hid hr2;have HO1:=hid ok1;have HO2:=hid ok2;clear hr1 hr2 ok1 ok2 t1 t2 hm hn hN hD hDN hle;obtain⟨i0,hi,hz0,hz1,hz2⟩:=info_parts Es
 go_enter Tryz.func211,Tryz.ntmps211
 go_wp2_with (at_make;refine wpList_make_full _ rfl _ _ 173 rfl w.heap.size 36 i0 (.int .u64 0) 1 Tryz.underlying173 hi hz0 hz1 _ _ _ _ N rfl rfl (by have:=HN.out;omega) (by have:=HN.out;omega) ?qb2 ?qb3 ?qb4 ?_)
 case qb2=>rw[hz2];omega
 case qb3=>unfold maxLen;omega
 case qb4=>exact le_refl _
 intro w1 hown hgrow;obtain⟨hB1,hbel⟩:=EC hown hgrow;clear hown hgrow hi hz0 hz1 hz2;have HB1:=hid hB1;have HBel:=hid hbel;clear hB1 hbel;go_wp2_with fail;refine(CJ w.heap.size 0 N _ _ (List.replicate N 0) xs xa f w1 HB1.out (by simp) hNx (by omega) hf (Ok.replicate _) HO1.out (Uv HR1.out HBel.out (le_refl _))).mono ?_;rintro e w2 ⟨rfl,hO2,c,L1,hB2,hA1⟩;have HB2:=hid hB2;have HO2':=hid hO2;have HA1:=hid hA1;have HBel2:=hid (HBel.out.trans (hO2.below (le_refl _)));have hl1:L1.length=N:=by rw[hA1.len];simp
 have HL1:=hid hl1;clear hB2 hO2 hA1 hl1;go_wp2_with fail;refine(Cf w.heap.size 0 N _ _ L1 ys ya g w2 HB2.out (by have:=HL1.out;omega) hNy (by omega) hg HA1.out.ok HO2.out (Uv HR2.out HBel2.out (le_refl _))).mono ?_;rintro e w3 ⟨c2,L2,hc2',rfl,hO3,hB3,hA2⟩;have hl2:L2.length=N:=by rw[hA2.len,HL1.out]
 have hv:val L2=f*val xs-g*val ys:=by
  have s1:=HA1.out.sum;have s2:=hA2.sum;rw[Cs,Nat.pow_zero,one_mul,zero_add,zero_add] at s1;rw[Nat.pow_zero,one_mul,zero_add] at s2;have hV:=kb hA2.ok;rw[hl2] at hV;exact cjh _ _ _ _ _ _ _ _ _ s1 s2 HLE.out HDN.out hV
 have hs:=Sl.of_blk hB3 hA2.ok 0 N N (by omega) (le_refl _) (by unfold maxLen;omega);rw[drop_zero,← hl2,take_length,hl2] at hs;have HS:=hid hs;have HV:=hid hv;have HL2:=hid hl2;have HB3:=hid (HBel2.out.trans (hO3.below (le_refl _)));clear hs hv hl2 hB3 hO3 hA2;go_wp2_with fail;refine(ym L2 _ _ HS.out (by rw[HL2.out];omega)).mono ?_;rintro e w4 ⟨v,rfl,hnat,rfl⟩;rw[HV.out] at hnat;have HNat:=hid hnat;clear hnat;go_wp2_with fail
 go_ret
 exact⟨v,rfl,HNat.out,HB3.out⟩
end Go.Proofs.YtolcmngcebnjdaaGreatDoor
