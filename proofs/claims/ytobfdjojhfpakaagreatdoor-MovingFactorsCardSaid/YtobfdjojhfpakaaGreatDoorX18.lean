/- Part 18. -/
import Derived.Test.YtobfdjojhfpakaaGreatDoorX17
set_option linter.all false
open Bool (and_eq_true)
open Go.Lib (hid)
open List (append_nil drop_drop length_append length_cons)
open Nat (div_le_self eq_zero_or_pos le_refl le_trans lt_of_le_of_lt lt_of_lt_of_le mul_le_mul_left pow_le_pow_right pow_succ)

namespace Go.Proofs.YtobfdjojhfpakaaGreatDoor.Lim
theorem YM (n:Int) (g:Nat):(n/(g:Int)).natAbs<=n.natAbs:=by
 rcases eq_zero_or_pos g with h|h
 ·subst h;simp
 ·rcases (Decidable.em (n<0)) with hn|hn
  ·have h1:=Int.mul_ediv_add_emod n g;have h2:=Int.emod_nonneg n (b:=(g:Int)) (by omega);have h3:=Int.emod_lt_of_pos n (b:=(g:Int)) (by omega);have h4:n<=n/(g:Int):=by
    have:n*(g:Int)<=n*1:=Int.mul_le_mul_of_nonpos_left (by omega) (by omega);rw[Int.mul_one] at this;exact(Int.le_ediv_iff_mul_le (by omega)).2 this
   have h5:n/(g:Int)<0:=Int.ediv_neg_of_neg_of_pos hn (by omega);omega
  ·have h1:0<=n/(g:Int):=Int.ediv_nonneg (by omega) (by omega);have h2:n/(g:Int)<=n:=Int.ediv_le_self _ (by omega);omega
theorem Yo (n:Int) (d:Nat) (hd:d≠0):(mkRat n d).num.natAbs<=n.natAbs/\(mkRat n d).den<=d:=by
 rw[Rat.num_mkRat,Rat.den_mkRat,if_neg hd,if_neg hd];exact⟨YM _ _,div_le_self _ _⟩
theorem chP (r s:Rat):(r*s).num.natAbs<=r.num.natAbs*s.num.natAbs/\(r*s).den<=r.den*s.den:=by
 rw[Rat.mul_def'];have:=Yo (r.num*s.num) (r.den*s.den) (Nat.mul_ne_zero r.den_nz s.den_nz)
 rwa [Int.natAbs_mul] at this
theorem chQ (r s:Rat):(r+s).num.natAbs<=r.num.natAbs*s.den+s.num.natAbs*r.den/\(r+s).den<=r.den*s.den:=by
 rw[Rat.add_def'];have:=Yo (r.num*s.den+s.num*r.den) (r.den*s.den) (Nat.mul_ne_zero r.den_nz s.den_nz);refine⟨le_trans this.1 ?_,this.2⟩;refine le_trans (Int.natAbs_add_le _ _) ?_;rw[Int.natAbs_mul,Int.natAbs_mul];simp
theorem zt (neg:Bool) (n:Nat):(if neg then -(n:Rat) else (n:Rat)).num=(if neg then -(n:Int) else (n:Int))/\(if neg then -(n:Rat) else (n:Rat)).den=1:=by
 cases neg
 ·exact⟨rfl,rfl⟩
 ·exact⟨rfl,rfl⟩
end Go.Proofs.YtobfdjojhfpakaaGreatDoor.Lim

namespace Go.Proofs.YtobfdjojhfpakaaGreatDoor
open Go Go.RowKit Go.Proofs Lim
theorem Siz.mul {r s:Rat}{k j:Nat}(h1:Siz r k) (h2:Siz s j):Siz (r*s) (k+j):=by
 obtain⟨a,b⟩:=chP r s;exact⟨lt_of_le_of_lt a (uY h1.1 h2.1),lt_of_le_of_lt b (uY h1.2 h2.2)⟩
theorem Siz.add {r s:Rat}{k j:Nat}(h1:Siz r k) (h2:Siz s j):Siz (r+s) (k+j+1):=by
 obtain⟨a,b⟩:=chQ r s;have e1:=uY h1.1 h2.2;have e2:=uY h2.1 h1.2;rw[Nat.add_comm j k] at e2;have e3:=uY h1.2 h2.2;have h:B^(k+j)*2<=B^(k+j+1):=by rw[pow_succ];exact mul_le_mul_left _ Wz
 refine⟨?_,?_⟩
 ·refine lt_of_le_of_lt a ?_;omega
 ·refine lt_of_le_of_lt b ?_;omega
theorem Siz.sub {r s:Rat}{k j:Nat}(h1:Siz r k) (h2:Siz s j):Siz (r-s) (k+j+1):=by
 rw[Rat.sub_eq_add_neg];exact h1.add h2.neg
theorem Siz.zero (k:Nat) (h:1<=k):Siz 0 k:=by
 have:1<B^k:=lt_of_lt_of_le (show 1<B^1 by decide) (pow_le_pow_right jo h);exact⟨by simp;omega,by simp;omega⟩
theorem Siz.div {r s:Rat}{k j:Nat}(h1:Siz r k) (h2:Siz s j) (h0:s.num≠0):Siz (r/s) (k+j):=by
 rw[Rat.div_def];exact h1.mul (h2.inv h0)
theorem EG {L k:Nat}(h:L<=19*k):10^L<=B^k:=by
 refine le_trans (pow_le_pow_right (by omega) h) ?_;rw[Nat.pow_mul];exact Nat.pow_le_pow_left (by decide) k
theorem Siz.read (s:List UInt8) {L k:Nat}(h:s.length<=L) (h1:1<=L) (hk:L<=19*k):Siz (jD s).1 k:=by
 obtain⟨a,b⟩:=cdF s h h1;exact⟨lt_of_lt_of_le a (EG hk),lt_of_lt_of_le b (EG hk)⟩
theorem ccA (s:List UInt8):Lib.index s [47]=if (s.dropWhile (· != 47)).isEmpty then -1 else ((s.takeWhile (· != 47)).length:Int):=by
 induction s with
 |nil=>rfl
 |cons c s ih =>
  rw[Lib.index];by_cases hc:c=47
  ·subst hc;simp
  ·have h1:(c != 47)=true:=by simpa using hc
   have h2:([47]:List UInt8).isPrefixOf (c::s)=false:=by
    simp [List.isPrefixOf];exact fun e=>hc e.symm
   rw[h2,List.dropWhile_cons,List.takeWhile_cons,h1,ih];simp only[if_true,length_cons];by_cases he:(s.dropWhile (· != 47)).isEmpty=true
   ·simp [he]
   ·simp only[he];have:(((s.takeWhile (· != 47)).length:Int) == -1)=false:=by rw[beq_eq_false_iff_ne];omega
    simp [this]
theorem cfR (s:List UInt8):Lib.cut s [47]=(s.takeWhile (· != 47),(s.dropWhile (· != 47)).tail,!(s.dropWhile (· != 47)).isEmpty):=by
 unfold Lib.cut;rw[ccA];have hs:=(List.takeWhile_append_dropWhile (p:=(· != (47:UInt8))) (l:=s)).symm;by_cases he:(s.dropWhile (· != 47)).isEmpty=true
 ·have h0:s.dropWhile (· != 47)=[]:=by simpa using he
  rw[if_pos he,if_neg (by decide),h0];rw[h0,append_nil] at hs;rw[← hs];rfl
 ·rw[if_neg he,if_pos (by omega)];generalize s.dropWhile (· != 47)=d at *;generalize s.takeWhile (· != 47)=t at *;subst hs;have h1:(!d.isEmpty)=true:=by simpa using he
  rw[h1,Int.toNat_natCast];refine Prod.ext ?_ (Prod.ext ?_ rfl)
  ·simp
  ·simp only[List.length_singleton];rw[← drop_drop,List.drop_left,List.drop_one]
theorem caA (s:List UInt8):Lib.hasPrefix s [45]=jC s/\Lib.trimPrefix s [45]=ke s:=by
 have h1:Lib.hasPrefix s [45]=jC s:=by
  unfold Lib.hasPrefix jC;cases s with
  |nil=>rfl
  |cons c s=>simp [List.isPrefixOf];rw[Bool.eq_iff_iff];simp;exact eq_comm
 refine⟨h1,?_⟩;unfold Lib.trimPrefix ke;rw[h1];cases s with
 |nil=>simp
 |cons c s=>simp
theorem UU (l:List UInt8) (w:World) :
 Calls Tryz.prog 96 #[str l,.string ⟨#[45]⟩] w (fun e w'=>e=.returned (.tuple #[str (ke l),.bool (jC l)])/\w=w'):=by
 refine(Tryz.strings_CutPrefix ⟨l.toArray⟩ ⟨#[45]⟩ w).mono ?_;rintro e w' ⟨rfl,rfl⟩;refine⟨?_,rfl⟩;have:=caA l;show Ending.returned (.tuple #[.string ⟨(Lib.trimPrefix l [45]).toArray⟩,.bool (Lib.hasPrefix l [45])])=_;rw[this.1,this.2]
theorem cie (l:List UInt8) (hl:l.length<=100000) (w:World) (hG:Gr w) :
 Calls Tryz.prog 97 #[str l,.string ⟨#[47]⟩] w (fun e w'=>e=.returned (.tuple #[str (l.takeWhile (· != 47)),str (l.dropWhile (· != 47)).tail,.bool (!(l.dropWhile (· != 47)).isEmpty)])/\∃ n,w'=w.drewN n):=by
 obtain⟨m,hm⟩:=hG.maxLen;refine(Tryz.strings_Cut ⟨l.toArray⟩ ⟨#[47]⟩ m w (by have:=EO l hl (show 100000<=4294967280 by omega);omega) hm).mono ?_;rintro e w' ⟨rfl,hw⟩;refine⟨?_,hw⟩;have:=cfR l;show Ending.returned (.tuple #[.string ⟨(Lib.cut l [47]).1.toArray⟩,.string ⟨(Lib.cut l [47]).2.1.toArray⟩,.bool (Lib.cut l [47]).2.2])=_;rw[this]
def kK (w:World) (l:List UInt8) (e:Ending) (w':World):Prop :=
 ∃ v,e=.returned (.tuple #[v,.int .i64 (jD l).2])/\IsQ w' v (jD l).1/\Below w.heap.size w w'
theorem kK.err {w w':World}{l:List UInt8}{k:Int}(hk:jD l=(0,k)) (hb:Below w.heap.size w w'):kK w l (.returned (.tuple #[lo false 0 0,.int .i64 k])) w':=by
 refine⟨lo false 0 0,by rw[hk],?_,hb⟩;rw[hk];exact Num.low 0 rfl rfl jo (show 1<B by decide)
theorem kf {l:List UInt8}(hl:¬ 4000<l.length) (h:kd l=none):jD l=(0,4):=by unfold jD;rw[if_neg hl,h]
theorem Ep {l:List UInt8}{r:Rat}(hl:¬ 4000<l.length) (h:kd l=some r):jD l=if jX r=l then (r,0) else (0,4):=by unfold jD;rw[if_neg hl,h]
theorem Cj (l:List UInt8):(ke l).length<=l.length:=by unfold ke;split<;>simp
theorem Gz (l:List UInt8):(jW l).length<=l.length:=by
 have h:=congrArg List.length (List.takeWhile_append_dropWhile (p:=(· != (47:UInt8))) (l:=ke l));rw[length_append] at h;have:=Cj l;unfold jW;omega
theorem Gb (l:List UInt8):(cY l).length<=l.length+1:=by
 unfold cY;have h1:=Cj l;have h:=congrArg List.length (List.takeWhile_append_dropWhile (p:=(· != (47:UInt8))) (l:=ke l));rw[length_append] at h;split
 ·simp
 ·rw[List.length_tail];omega
theorem cgd {l:List UInt8}(h:kv l=true):∀ c∈l,jI c=true:=by
 unfold kv at h;rw[and_eq_true,List.all_eq_true] at h;exact h.2
theorem Kq {l:List UInt8}{k:Nat}(h:kv l=true) (hl:l.length<=19*k):cO l<B^k :=
 lt_of_lt_of_le (Jf l (cgd h)) (EG hl)
theorem JQ {k:Nat}(hk:1<=k):1<B^k:=lt_of_lt_of_le (show 1<B^1 by decide) (pow_le_pow_right jo hk)
theorem WM {n k:Nat}(neg:Bool) (h:n<B^k) (hk:1<=k):Siz (yd neg n) k:=by
 have h4:=zt neg n;have h1:=JQ hk;unfold Siz yd;rw[h4.1,h4.2];refine⟨?_,h1⟩;cases neg
 ·simpa using h
 ·simpa using h
theorem cfg {n k:Nat}(h:n<B^k) (hk:1<=k):Siz ((n:Nat):Rat) k:=by
 refine⟨?_,JQ hk⟩;show ((n:Nat):Int).natAbs<B^k;simpa using h
theorem chn (l:List UInt8) (w:World) (hl:l.length<=100000) (hG:Gr w):Calls Tryz.prog 42 #[str l] w (kK w l):=by
 by_cases h4:4000<l.length
 ·have hr:jD l=(0,5):=by unfold jD;rw[if_pos h4]
  have HR:=hid hr;have hi:(4000:Int)<(l.length:Int):=by omega
  clear hr h4 hG
  go_enter Tryz.func42,Tryz.ntmps42
  go_wp2_with fail;refine bodyPost_ret (v:=.tuple #[lo false 0 0,.int .i64 5]) (by simp [results,Tryz.results42,go_sem]) rfl ?_;exact kK.err HR.out (jm w _)
 ·have hi:¬ (4000:Int)<(l.length:Int):=by omega
  have HG:=hid hG;have H4:=hid h4;have HNA:=hid (fun W (hW:Below w.heap.size w W)=>EM (jW l) W (by have:=Gz l;omega) (hG.below hW hG.size));have HNB:=hid (fun W (hW:Below w.heap.size w W)=>EM (cY l) W (by have:=Gb l;omega) (hG.below hW hG.size));have HCut:=hid (fun W (hW:Below w.heap.size w W)=>cie (ke l) (by have:=Cj l;omega) W (hG.below hW hG.size));clear hG h4
  go_enter Tryz.func42,Tryz.ntmps42
  go_wp2_with fail;refine(UU l _).mono ?_;rintro e w1 ⟨rfl,rfl⟩;go_wp2_with fail;obtain⟨W0,hW0,hb0,hz,hs⟩:=boxz w;rw[← hW0];clear hW0;have HZ:=hid hz;have HW0:=hid hb0;have hb0:=Below.refl W0.heap.size W0;clear hz;clear hs;refine(HCut.out _ HW0.out).mono ?_;rintro e W2 ⟨rfl,q,rfl⟩;have HA2:Hid (Below W0.heap.size W0 (W0.drewN q)):=kM hb0;clear hb0;generalize W0.drewN q=W2 at *;by_cases hs:((ke l).dropWhile (· != 47)).isEmpty=true
  ·have hbe:cY l=[49]:=by unfold cY;rw[if_pos hs]
   have HNB:=hid (fun W hW=>show Calls Tryz.prog 98 #[.string ⟨#[49]⟩] W (UM W (cY l)) from(by
    have:=HNB.out W hW;rw[show str (cY l)=.string ⟨#[49]⟩ from by rw[hbe]] at this;exact this))
   rw[hs];show _;rw[show (ke l).takeWhile (· != 47)=jW l from rfl];clear hs hbe;go_wp2_with fail;refine(HNA.out _ (cf HW0.out HA2.out)).mono ?_;rintro e W3 (⟨hok1,va,rfl,hva,hb⟩|⟨hok1,rfl,hb⟩)
   ·have HVA:=hid hva;have HO1:=hid hok1;have HA3:=hid (cf HA2.out hb);obtain⟨aa,al,ac,rfl,_⟩:=hva.form;clear hva hok1 hb HNA HA2;go_wp2_with fail;refine(HNB.out _ (cf HW0.out HA3.out)).mono ?_;rintro e W4 (⟨hok2,vb,rfl,hvb,hb⟩|⟨hok2,rfl,hb⟩)
    ·obtain⟨ba,bl,bc,rfl,_,hbz,_⟩:=hvb.form;have HVB:=hid hvb;have HVA:=hid (HVA.out.below hb (le_refl _));have HO2:=hid hok2;have HA4:=hid (cf HA3.out hb);by_cases hd0:cO (cY l)=0
     ·have hbl:bl=0:=hbz.2 hd0;have HD0:=hid hd0;subst hbl;clear hvb hok2 hb HNB HA3 hbz hd0;have hfin:=kK.err (kf H4.out (by unfold kd;rw[HO1.out,HO2.out,HD0.out];rfl)) (kB HW0.out HA4.out (le_refl _) (.bool false) (.int .u64 0) (.int .u64 0) (.pointer none));have HFin:=hid hfin
      (have hz:=HZ.out.below HA4.out (le_refl _);have zf:=hz.frozen;obtain⟨z0,z1,z2,z3⟩:=hz.cells;have zf0:=zf 0;have zf1:=zf 1;have zf2:=zf 2;have zf3:=zf 3;clear zf hz)
      clear hfin;go_wp2_with fail;refine bodyPost_ret (v:=.tuple #[lo false 0 0,.int .i64 4]) (by simp [results,Tryz.results42,go_sem,z0,z1,z2,z3]) rfl ?_;exact HFin.out
     ·have hbl:(((bl:Nat):Int) == 0)=false:=by rw[beq_eq_false_iff_ne];intro e;exact hd0 (hbz.1 (by omega))
      have hpar:kd l=some (yd (jC l) (cO (jW l))*((cO (cY l):Nat):Rat)⁻¹):=by
       unfold kd;rw[HO1.out,HO2.out,Bool.true_and,Bool.true_and,if_pos (by simpa using hd0)]
      have HPar:=hid (Ep H4.out hpar);have HWn:=hid (fun v W (hv:cg W v (cO (jW l)))=>(Jr (jC l) v _ W hv).mono fun e W' h=>h.q (r:=yd (jC l) (cO (jW l))) (zt _ _).1 (zt _ _).2);have HWd:=hid (fun v W (hv:cg W v (cO (cY l)))=>(Jr false v _ W hv).mono fun e W' h=>h.q (r:=((cO (cY l):Nat):Rat)) rfl rfl);have hdn:(((cO (cY l):Nat):Rat)).num≠0:=by
       show ((cO (cY l):Nat):Int)≠0;omega
      have HRc:=hid (fun v W (hv:IsQ W v ((cO (cY l):Nat):Rat))=>cbq v _ W hv hdn);obtain⟨K,hK1,hK2,hK3⟩:∃ K:Nat,4001<=19*K/\(K:Int)<=1073741824/\((K+K:Nat):Int)<=1073741824:=⟨300,by omega,by omega,by omega⟩;have hz1:=WM (k:=K) (jC l) (Kq HO1.out (by have:=Gz l;omega)) (by omega);have hz2:=cfg (k:=K) (Kq HO2.out (by have:=Gb l;omega)) (by omega);have hz3:=hz2.inv hdn;have HTm:=hid (fun v1 v2 W h1 h2 hG=>Gt v1 v2 (yd (jC l) (cO (jW l))) ((cO (cY l):Nat):Rat)⁻¹ K W h1 h2 hz1 hz3 hK2 hG);have HTx:=hid (fun v W h=>caD v (yd (jC l) (cO (jW l))*((cO (cY l):Nat):Rat)⁻¹) (K+K) W h (hz1.mul hz3) hK3);clear hz1 hz2 hz3 hK1 hK2 hK3 hdn hpar hvb hok2 hb HNB HA3 hbz hd0;generalize yd (jC l) (cO (jW l))=qn at *;generalize hdv:((cO (cY l):Nat):Rat)=qd at *;go_wp2_with fail;refine(HWn.out _ _ HVA.out).mono ?_;rintro e W5 ⟨v1,rfl,hv1,hb⟩;have HV1:=hid hv1;have HVB:=hid (HVB.out.below hb (le_refl _));have HA5:=hid (cf HA4.out hb);obtain⟨_,_,_,_,rfl⟩:=hv1.form;clear hv1 hb HWn HA4 HVA hdv;go_wp2_with fail;refine(HWd.out _ _ HVB.out).mono ?_;rintro e W6 ⟨v2,rfl,hv2,hb⟩;have HV1:=hid (HV1.out.below hb (le_refl _));have HV2:=hid hv2;have HA6:=hid (cf HA5.out hb);obtain⟨_,_,_,_,rfl⟩:=hv2.form;clear hv2 hb HWd HA5 HVB;go_wp2_with fail;refine(HRc.out _ _ HV2.out).mono ?_;rintro e W7 ⟨v3,rfl,hv3,hb⟩;have HV1:=hid (HV1.out.below hb (le_refl _));have HV3:=hid hv3;have HA7:=hid (cf HA6.out hb);obtain⟨_,_,_,_,rfl⟩:=hv3.form;clear hv3 hb HRc HA6 HV2;go_wp2_with fail;refine(HTm.out _ _ _ HV1.out HV3.out (HG.out.below (cf HW0.out HA7.out) HG.out.size)).mono ?_;rintro e W8 ⟨v4,rfl,hv4,hb⟩;have HV4:=hid hv4
      have HA8:=hid (cf HA7.out hb);obtain⟨sx,ax,bx,px,rfl⟩:=hv4.form;clear hv4 hb HTm HA7 HV1 HV3;have hlt:w.heap.size<W8.heap.size:=World.block_lt_of_cell? W8 ⟨w.heap.size,0,none⟩ (HZ.out.below HA8.out (le_refl _)).cells.1;go_wp2_with fail;obtain⟨W9,hW,hb,⟨g0,g1,g2,g3⟩⟩:=cbf W8 (.bool sx) (u ax) (u bx) (.pointer px);rw[← hW];clear hW;have HV4:=hid (HV4.out.below hb (le_refl _));have HA9:=hid (cf HA8.out hb);have m1:¬ w.heap.size=W8.heap.size:=by omega
      have m2:¬ W8.heap.size=w.heap.size:=by omega
      clear hb HA8 hlt;generalize W8.heap.size=bx1 at *;refine(HTx.out _ _ HV4.out).mono ?_;rintro e W10 ⟨rfl,hb⟩
      (have hh:=cB (b:=bx1) hb g0 g1 g2 g3;clear g0 g1 g2 g3;obtain⟨g0,g1,g2,g3⟩:=hh)
      have HV4:=hid (HV4.out.below hb (le_refl _));have HAx:=hid (cf HA9.out hb);clear hb HA9 HTx;by_cases hq:jX (qn*qd⁻¹)=l
      ·rw[hq];have hp:=HPar.out;rw[if_pos hq] at hp;have hz:=HZ.out.below HAx.out (le_refl _);have hfin:=uF.stored (a0:=.bool sx) (a1:=u ax) (a2:=u bx) (a3:=.pointer px) hz HV4.out (cf HW0.out HAx.out) (le_refl _);have HFin:=hid hfin;have HPv:=hid hp
       (have hz:=HZ.out.below HAx.out (le_refl _);have zf:=hz.frozen;obtain⟨z0,z1,z2,z3⟩:=hz.cells;have zf0:=zf 0;have zf1:=zf 1;have zf2:=zf 2;have zf3:=zf 3;clear zf hz)
       clear hfin hz hq hp HPar;go_wp2_with fail;refine bodyPost_ret (v:=.tuple #[.agg #[.bool sx,u ax,u bx,.pointer px],.int .i64 0]) (by simp [results,Tryz.results42,go_sem,z0,z1,z2,z3]) rfl ?_;obtain⟨v,hv,hqq,hbb⟩:=HFin.out;injection hv with hv
       subst hv;refine⟨_,by rw[HPv.out],?_,hbb⟩;rw[HPv.out];exact hqq
      ·have hp:=HPar.out;rw[if_neg hq] at hp;have hfin:=kK.err hp (kB HW0.out HAx.out (le_refl _) (.bool false) (.int .u64 0) (.int .u64 0) (.pointer none));have HFin:=hid hfin
       (have hz:=HZ.out.below HAx.out (le_refl _);have zf:=hz.frozen;obtain⟨z0,z1,z2,z3⟩:=hz.cells;have zf0:=zf 0;have zf1:=zf 1;have zf2:=zf 2;have zf3:=zf 3;clear zf hz)
       clear hfin hp HPar HV4;generalize jX (qn*qd⁻¹)=tq at *;have hqb:(tq == l)=false:=by simpa using hq
       clear hq;go_wp2_with fail;refine bodyPost_ret (v:=.tuple #[lo false 0 0,.int .i64 4]) (by simp [results,Tryz.results42,go_sem,z0,z1,z2,z3]) rfl ?_;exact HFin.out
    ·have HO2:=hid hok2;have HA4:=hid (cf HA3.out hb);clear hok2 hb HNB HA3 HVA;have hfin:=kK.err (kf H4.out (by unfold kd;rw[HO2.out,Bool.and_false,Bool.false_and];rfl)) (kB HW0.out HA4.out (le_refl _) (.bool false) (.int .u64 0) (.int .u64 0) (.pointer none));have HFin:=hid hfin
     (have hz:=HZ.out.below HA4.out (le_refl _);have zf:=hz.frozen;obtain⟨z0,z1,z2,z3⟩:=hz.cells;have zf0:=zf 0;have zf1:=zf 1;have zf2:=zf 2;have zf3:=zf 3;clear zf hz)
     clear hfin;go_wp2_with fail;refine bodyPost_ret (v:=.tuple #[lo false 0 0,.int .i64 4]) (by simp [results,Tryz.results42,go_sem,z0,z1,z2,z3]) rfl ?_;exact HFin.out
   ·have HO1:=hid hok1;have HA3:=hid (cf HA2.out hb);clear hok1 hb HNA HA2;go_wp2_with fail;refine(HNB.out _ (cf HW0.out HA3.out)).mono ?_;rintro e W4 (⟨hok2,vb,rfl,hvb,hb⟩|⟨hok2,rfl,hb⟩)
    ·obtain⟨ba,bl,bc,rfl,_⟩:=hvb.form;have HA4:=hid (cf HA3.out hb);clear hvb hok2 hb HNB HA3;have hfin:=kK.err (kf H4.out (by unfold kd;rw[HO1.out,Bool.false_and,Bool.false_and];rfl)) (kB HW0.out HA4.out (le_refl _) (.bool false) (.int .u64 0) (.int .u64 0) (.pointer none));have HFin:=hid hfin
     (have hz:=HZ.out.below HA4.out (le_refl _);have zf:=hz.frozen;obtain⟨z0,z1,z2,z3⟩:=hz.cells;have zf0:=zf 0;have zf1:=zf 1;have zf2:=zf 2;have zf3:=zf 3;clear zf hz)
     clear hfin;go_wp2_with fail;refine bodyPost_ret (v:=.tuple #[lo false 0 0,.int .i64 4]) (by simp [results,Tryz.results42,go_sem,z0,z1,z2,z3]) rfl ?_;exact HFin.out
    ·have HA4:=hid (cf HA3.out hb);clear hok2 hb HNB HA3;have hfin:=kK.err (kf H4.out (by unfold kd;rw[HO1.out,Bool.false_and,Bool.false_and];rfl)) (kB HW0.out HA4.out (le_refl _) (.bool false) (.int .u64 0) (.int .u64 0) (.pointer none));have HFin:=hid hfin
     (have hz:=HZ.out.below HA4.out (le_refl _);have zf:=hz.frozen;obtain⟨z0,z1,z2,z3⟩:=hz.cells;have zf0:=zf 0;have zf1:=zf 1;have zf2:=zf 2;have zf3:=zf 3;clear zf hz)
     clear hfin;go_wp2_with fail;refine bodyPost_ret (v:=.tuple #[lo false 0 0,.int .i64 4]) (by simp [results,Tryz.results42,go_sem,z0,z1,z2,z3]) rfl ?_;exact HFin.out
  ·have hs:((ke l).dropWhile (· != 47)).isEmpty=false:=by simpa using hs
   have hbe:((ke l).dropWhile (· != 47)).tail=cY l:=by unfold cY;rw[hs];rfl
   rw[hs,hbe,show (ke l).takeWhile (· != 47)=jW l from rfl];clear hs hbe;go_wp2_with fail;refine(HNA.out _ (cf HW0.out HA2.out)).mono ?_;rintro e W3 (⟨hok1,va,rfl,hva,hb⟩|⟨hok1,rfl,hb⟩)
   ·have HVA:=hid hva;have HO1:=hid hok1;have HA3:=hid (cf HA2.out hb);obtain⟨aa,al,ac,rfl,_⟩:=hva.form;clear hva hok1 hb HNA HA2;go_wp2_with fail;refine(HNB.out _ (cf HW0.out HA3.out)).mono ?_;rintro e W4 (⟨hok2,vb,rfl,hvb,hb⟩|⟨hok2,rfl,hb⟩)
    ·obtain⟨ba,bl,bc,rfl,_,hbz,_⟩:=hvb.form;have HVB:=hid hvb;have HVA:=hid (HVA.out.below hb (le_refl _));have HO2:=hid hok2;have HA4:=hid (cf HA3.out hb);by_cases hd0:cO (cY l)=0
     ·have hbl:bl=0:=hbz.2 hd0;have HD0:=hid hd0;subst hbl;clear hvb hok2 hb HNB HA3 hbz hd0;have hfin:=kK.err (kf H4.out (by unfold kd;rw[HO1.out,HO2.out,HD0.out];rfl)) (kB HW0.out HA4.out (le_refl _) (.bool false) (.int .u64 0) (.int .u64 0) (.pointer none));have HFin:=hid hfin
      (have hz:=HZ.out.below HA4.out (le_refl _);have zf:=hz.frozen;obtain⟨z0,z1,z2,z3⟩:=hz.cells;have zf0:=zf 0;have zf1:=zf 1;have zf2:=zf 2;have zf3:=zf 3;clear zf hz)
      clear hfin;go_wp2_with fail;refine bodyPost_ret (v:=.tuple #[lo false 0 0,.int .i64 4]) (by simp [results,Tryz.results42,go_sem,z0,z1,z2,z3]) rfl ?_;exact HFin.out
     ·have hbl:(((bl:Nat):Int) == 0)=false:=by rw[beq_eq_false_iff_ne];intro e;exact hd0 (hbz.1 (by omega))
      have hpar:kd l=some (yd (jC l) (cO (jW l))*((cO (cY l):Nat):Rat)⁻¹):=by
       unfold kd;rw[HO1.out,HO2.out,Bool.true_and,Bool.true_and,if_pos (by simpa using hd0)]
      have HPar:=hid (Ep H4.out hpar);have HWn:=hid (fun v W (hv:cg W v (cO (jW l)))=>(Jr (jC l) v _ W hv).mono fun e W' h=>h.q (r:=yd (jC l) (cO (jW l))) (zt _ _).1 (zt _ _).2);have HWd:=hid (fun v W (hv:cg W v (cO (cY l)))=>(Jr false v _ W hv).mono fun e W' h=>h.q (r:=((cO (cY l):Nat):Rat)) rfl rfl);have hdn:(((cO (cY l):Nat):Rat)).num≠0:=by
       show ((cO (cY l):Nat):Int)≠0;omega
      have HRc:=hid (fun v W (hv:IsQ W v ((cO (cY l):Nat):Rat))=>cbq v _ W hv hdn);obtain⟨K,hK1,hK2,hK3⟩:∃ K:Nat,4001<=19*K/\(K:Int)<=1073741824/\((K+K:Nat):Int)<=1073741824:=⟨300,by omega,by omega,by omega⟩;have hz1:=WM (k:=K) (jC l) (Kq HO1.out (by have:=Gz l;omega)) (by omega);have hz2:=cfg (k:=K) (Kq HO2.out (by have:=Gb l;omega)) (by omega);have hz3:=hz2.inv hdn;have HTm:=hid (fun v1 v2 W h1 h2 hG=>Gt v1 v2 (yd (jC l) (cO (jW l))) ((cO (cY l):Nat):Rat)⁻¹ K W h1 h2 hz1 hz3 hK2 hG);have HTx:=hid (fun v W h=>caD v (yd (jC l) (cO (jW l))*((cO (cY l):Nat):Rat)⁻¹) (K+K) W h (hz1.mul hz3) hK3);clear hz1 hz2 hz3 hK1 hK2 hK3 hdn hpar hvb hok2 hb HNB HA3 hbz hd0;generalize yd (jC l) (cO (jW l))=qn at *;generalize hdv:((cO (cY l):Nat):Rat)=qd at *;go_wp2_with fail;refine(HWn.out _ _ HVA.out).mono ?_;rintro e W5 ⟨v1,rfl,hv1,hb⟩;have HV1:=hid hv1;have HVB:=hid (HVB.out.below hb (le_refl _));have HA5:=hid (cf HA4.out hb);obtain⟨_,_,_,_,rfl⟩:=hv1.form;clear hv1 hb HWn HA4 HVA hdv;go_wp2_with fail;refine(HWd.out _ _ HVB.out).mono ?_;rintro e W6 ⟨v2,rfl,hv2,hb⟩;have HV1:=hid (HV1.out.below hb (le_refl _));have HV2:=hid hv2;have HA6:=hid (cf HA5.out hb);obtain⟨_,_,_,_,rfl⟩:=hv2.form;clear hv2 hb HWd HA5 HVB;go_wp2_with fail;refine(HRc.out _ _ HV2.out).mono ?_;rintro e W7 ⟨v3,rfl,hv3,hb⟩;have HV1:=hid (HV1.out.below hb (le_refl _));have HV3:=hid hv3;have HA7:=hid (cf HA6.out hb);obtain⟨_,_,_,_,rfl⟩:=hv3.form;clear hv3 hb HRc HA6 HV2;go_wp2_with fail;refine(HTm.out _ _ _ HV1.out HV3.out (HG.out.below (cf HW0.out HA7.out) HG.out.size)).mono ?_;rintro e W8 ⟨v4,rfl,hv4,hb⟩;have HV4:=hid hv4
      have HA8:=hid (cf HA7.out hb);obtain⟨sx,ax,bx,px,rfl⟩:=hv4.form;clear hv4 hb HTm HA7 HV1 HV3;have hlt:w.heap.size<W8.heap.size:=World.block_lt_of_cell? W8 ⟨w.heap.size,0,none⟩ (HZ.out.below HA8.out (le_refl _)).cells.1;go_wp2_with fail;obtain⟨W9,hW,hb,⟨g0,g1,g2,g3⟩⟩:=cbf W8 (.bool sx) (u ax) (u bx) (.pointer px);rw[← hW];clear hW;have HV4:=hid (HV4.out.below hb (le_refl _));have HA9:=hid (cf HA8.out hb);have m1:¬ w.heap.size=W8.heap.size:=by omega
      have m2:¬ W8.heap.size=w.heap.size:=by omega
      clear hb HA8 hlt;generalize W8.heap.size=bx1 at *;refine(HTx.out _ _ HV4.out).mono ?_;rintro e W10 ⟨rfl,hb⟩
      (have hh:=cB (b:=bx1) hb g0 g1 g2 g3;clear g0 g1 g2 g3;obtain⟨g0,g1,g2,g3⟩:=hh)
      have HV4:=hid (HV4.out.below hb (le_refl _));have HAx:=hid (cf HA9.out hb);clear hb HA9 HTx;by_cases hq:jX (qn*qd⁻¹)=l
      ·rw[hq];have hp:=HPar.out;rw[if_pos hq] at hp;have hz:=HZ.out.below HAx.out (le_refl _);have hfin:=uF.stored (a0:=.bool sx) (a1:=u ax) (a2:=u bx) (a3:=.pointer px) hz HV4.out (cf HW0.out HAx.out) (le_refl _);have HFin:=hid hfin;have HPv:=hid hp
       (have hz:=HZ.out.below HAx.out (le_refl _);have zf:=hz.frozen;obtain⟨z0,z1,z2,z3⟩:=hz.cells;have zf0:=zf 0;have zf1:=zf 1;have zf2:=zf 2;have zf3:=zf 3;clear zf hz)
       clear hfin hz hq hp HPar;go_wp2_with fail;refine bodyPost_ret (v:=.tuple #[.agg #[.bool sx,u ax,u bx,.pointer px],.int .i64 0]) (by simp [results,Tryz.results42,go_sem,z0,z1,z2,z3]) rfl ?_;obtain⟨v,hv,hqq,hbb⟩:=HFin.out;injection hv with hv
       subst hv;refine⟨_,by rw[HPv.out],?_,hbb⟩;rw[HPv.out];exact hqq
      ·have hp:=HPar.out;rw[if_neg hq] at hp;have hfin:=kK.err hp (kB HW0.out HAx.out (le_refl _) (.bool false) (.int .u64 0) (.int .u64 0) (.pointer none));have HFin:=hid hfin
       (have hz:=HZ.out.below HAx.out (le_refl _);have zf:=hz.frozen;obtain⟨z0,z1,z2,z3⟩:=hz.cells;have zf0:=zf 0;have zf1:=zf 1;have zf2:=zf 2;have zf3:=zf 3;clear zf hz)
       clear hfin hp HPar HV4;generalize jX (qn*qd⁻¹)=tq at *;have hqb:(tq == l)=false:=by simpa using hq
       clear hq;go_wp2_with fail;refine bodyPost_ret (v:=.tuple #[lo false 0 0,.int .i64 4]) (by simp [results,Tryz.results42,go_sem,z0,z1,z2,z3]) rfl ?_;exact HFin.out
    ·have HO2:=hid hok2;have HA4:=hid (cf HA3.out hb);clear hok2 hb HNB HA3 HVA;have hfin:=kK.err (kf H4.out (by unfold kd;rw[HO2.out,Bool.and_false,Bool.false_and];rfl)) (kB HW0.out HA4.out (le_refl _) (.bool false) (.int .u64 0) (.int .u64 0) (.pointer none));have HFin:=hid hfin
     (have hz:=HZ.out.below HA4.out (le_refl _);have zf:=hz.frozen;obtain⟨z0,z1,z2,z3⟩:=hz.cells;have zf0:=zf 0;have zf1:=zf 1;have zf2:=zf 2;have zf3:=zf 3;clear zf hz)
     clear hfin;go_wp2_with fail;refine bodyPost_ret (v:=.tuple #[lo false 0 0,.int .i64 4]) (by simp [results,Tryz.results42,go_sem,z0,z1,z2,z3]) rfl ?_;exact HFin.out
   ·have HO1:=hid hok1;have HA3:=hid (cf HA2.out hb);clear hok1 hb HNA HA2;go_wp2_with fail;refine(HNB.out _ (cf HW0.out HA3.out)).mono ?_;rintro e W4 (⟨hok2,vb,rfl,hvb,hb⟩|⟨hok2,rfl,hb⟩)
    ·obtain⟨ba,bl,bc,rfl,_⟩:=hvb.form;have HA4:=hid (cf HA3.out hb);clear hvb hok2 hb HNB HA3;have hfin:=kK.err (kf H4.out (by unfold kd;rw[HO1.out,Bool.false_and,Bool.false_and];rfl)) (kB HW0.out HA4.out (le_refl _) (.bool false) (.int .u64 0) (.int .u64 0) (.pointer none));have HFin:=hid hfin
     (have hz:=HZ.out.below HA4.out (le_refl _);have zf:=hz.frozen;obtain⟨z0,z1,z2,z3⟩:=hz.cells;have zf0:=zf 0;have zf1:=zf 1;have zf2:=zf 2;have zf3:=zf 3;clear zf hz)
     clear hfin;go_wp2_with fail;refine bodyPost_ret (v:=.tuple #[lo false 0 0,.int .i64 4]) (by simp [results,Tryz.results42,go_sem,z0,z1,z2,z3]) rfl ?_;exact HFin.out
    ·have HA4:=hid (cf HA3.out hb);clear hok2 hb HNB HA3;have hfin:=kK.err (kf H4.out (by unfold kd;rw[HO1.out,Bool.false_and,Bool.false_and];rfl)) (kB HW0.out HA4.out (le_refl _) (.bool false) (.int .u64 0) (.int .u64 0) (.pointer none));have HFin:=hid hfin
     (have hz:=HZ.out.below HA4.out (le_refl _);have zf:=hz.frozen;obtain⟨z0,z1,z2,z3⟩:=hz.cells;have zf0:=zf 0;have zf1:=zf 1;have zf2:=zf 2;have zf3:=zf 3;clear zf hz)
     clear hfin;go_wp2_with fail;refine bodyPost_ret (v:=.tuple #[lo false 0 0,.int .i64 4]) (by simp [results,Tryz.results42,go_sem,z0,z1,z2,z3]) rfl ?_;exact HFin.out
def IsS (w:World) (v:Value) (lo hi:Rat):Prop:=∃ s1 a1 b1 p1 s2 a2 b2 p2,v=.agg #[.bool s1,u a1,u b1,.pointer p1,.bool s2,u a2,u b2,.pointer p2]/\
 IsQ w (.agg #[.bool s1,u a1,u b1,.pointer p1]) lo/\IsQ w (.agg #[.bool s2,u a2,u b2,.pointer p2]) hi
open Go Go.RowKit Go.Proofs Lim
end Go.Proofs.YtobfdjojhfpakaaGreatDoor
