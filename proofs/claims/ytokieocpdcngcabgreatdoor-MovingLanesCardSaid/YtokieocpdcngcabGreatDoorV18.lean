/- Part 18. -/
import Derived.Test.YtokieocpdcngcabGreatDoorV17
set_option linter.all false
open Bool (and_eq_true)
open Go.Lib (hid)
open List (append_nil drop_drop length_append length_cons mem_cons_of_mem take_length)
open Nat (div_le_self eq_zero_or_pos le_refl le_trans lt_of_le_of_lt lt_of_lt_of_le mul_le_mul_left pow_le_pow_right pow_succ zero_add zero_le)
open Go.World (size_alloc)

namespace Go.Proofs.YtokieocpdcngcabGreatDoor.Lim
theorem ZT (n:Int) (g:Nat):(n/(g:Int)).natAbs<=n.natAbs:=by
 rcases eq_zero_or_pos g with h|h
 ·subst h;simp
 ·rcases (Decidable.em (n<0)) with hn|hn
  ·have h1:=Int.mul_ediv_add_emod n g;have h2:=Int.emod_nonneg n (b:=(g:Int)) (by omega);have h3:=Int.emod_lt_of_pos n (b:=(g:Int)) (by omega);have h4:n<=n/(g:Int):=by
    have:n*(g:Int)<=n*1:=Int.mul_le_mul_of_nonpos_left (by omega) (by omega);rw[Int.mul_one] at this;exact(Int.le_ediv_iff_mul_le (by omega)).2 this
   have h5:n/(g:Int)<0:=Int.ediv_neg_of_neg_of_pos hn (by omega);omega
  ·have h1:0<=n/(g:Int):=Int.ediv_nonneg (by omega) (by omega);have h2:n/(g:Int)<=n:=Int.ediv_le_self _ (by omega);omega
theorem Za (n:Int) (d:Nat) (hd:d≠0):(mkRat n d).num.natAbs<=n.natAbs/\(mkRat n d).den<=d:=by
 rw[Rat.num_mkRat,Rat.den_mkRat,if_neg hd,if_neg hd];exact⟨ZT _ _,div_le_self _ _⟩
theorem cka (r s:Rat):(r*s).num.natAbs<=r.num.natAbs*s.num.natAbs/\(r*s).den<=r.den*s.den:=by
 rw[Rat.mul_def'];have:=Za (r.num*s.num) (r.den*s.den) (Nat.mul_ne_zero r.den_nz s.den_nz)
 rwa [Int.natAbs_mul] at this
theorem cjJ (r s:Rat):(r+s).num.natAbs<=r.num.natAbs*s.den+s.num.natAbs*r.den/\(r+s).den<=r.den*s.den:=by
 rw[Rat.add_def'];have:=Za (r.num*s.den+s.num*r.den) (r.den*s.den) (Nat.mul_ne_zero r.den_nz s.den_nz);refine⟨le_trans this.1 ?_,this.2⟩;refine le_trans (Int.natAbs_add_le _ _) ?_;rw[Int.natAbs_mul,Int.natAbs_mul];simp
theorem zS (neg:Bool) (n:Nat):(if neg then -(n:Rat) else (n:Rat)).num=(if neg then -(n:Int) else (n:Int))/\(if neg then -(n:Rat) else (n:Rat)).den=1:=by
 cases neg
 ·exact⟨rfl,rfl⟩
 ·exact⟨rfl,rfl⟩
end Go.Proofs.YtokieocpdcngcabGreatDoor.Lim

namespace Go.Proofs.YtokieocpdcngcabGreatDoor
open Go Go.RowKit Go.Proofs Lim
theorem Siz.mul {r s:Rat}{k j:Nat}(h1:Siz r k) (h2:Siz s j):Siz (r*s) (k+j):=by
 obtain⟨a,b⟩:=cka r s;exact⟨lt_of_le_of_lt a (yx h1.1 h2.1),lt_of_le_of_lt b (yx h1.2 h2.2)⟩
theorem Siz.add {r s:Rat}{k j:Nat}(h1:Siz r k) (h2:Siz s j):Siz (r+s) (k+j+1):=by
 obtain⟨a,b⟩:=cjJ r s;have e1:=yx h1.1 h2.2;have e2:=yx h2.1 h1.2;rw[Nat.add_comm j k] at e2;have e3:=yx h1.2 h2.2;have h:B^(k+j)*2<=B^(k+j+1):=by rw[pow_succ];exact mul_le_mul_left _ YK
 refine⟨?_,?_⟩
 ·refine lt_of_le_of_lt a ?_;omega
 ·refine lt_of_le_of_lt b ?_;omega
theorem Siz.sub {r s:Rat}{k j:Nat}(h1:Siz r k) (h2:Siz s j):Siz (r-s) (k+j+1):=by
 rw[Rat.sub_eq_add_neg];exact h1.add h2.neg
theorem Siz.zero (k:Nat) (h:1<=k):Siz 0 k:=by
 have:1<B^k:=lt_of_lt_of_le (show 1<B^1 by decide) (pow_le_pow_right js h);exact⟨by simp;omega,by simp;omega⟩
theorem Siz.div {r s:Rat}{k j:Nat}(h1:Siz r k) (h2:Siz s j) (h0:s.num≠0):Siz (r/s) (k+j):=by
 rw[Rat.div_def];exact h1.mul (h2.inv h0)
theorem Gi {L k:Nat}(h:L<=19*k):10^L<=B^k:=by
 refine le_trans (pow_le_pow_right (by omega) h) ?_;rw[Nat.pow_mul];exact Nat.pow_le_pow_left (by decide) k
theorem Siz.read (s:List UInt8) {L k:Nat}(h:s.length<=L) (h1:1<=L) (hk:L<=19*k):Siz (jr s).1 k:=by
 obtain⟨a,b⟩:=cfc s h h1;exact⟨lt_of_lt_of_le a (Gi hk),lt_of_lt_of_le b (Gi hk)⟩
theorem cdE (s:List UInt8):Lib.index s [47]=if (s.dropWhile (· != 47)).isEmpty then -1 else ((s.takeWhile (· != 47)).length:Int):=by
 induction s with
 |nil=>rfl
 |cons c s ih =>
  rw[Lib.index];by_cases hc:c=47
  ·subst hc;simp
  ·have h1:(c != 47)=true:=by simpa using hc
   have h2:([47]:List UInt8).isPrefixOf (c::s)=false:=by
    simp [List.isPrefixOf];exact fun e=>hc e.symm
   rw[h2,List.dropWhile_cons,List.takeWhile_cons,h1,ih];simp only[if_true,length_cons];by_cases he:(s.dropWhile (· != 47)).isEmpty=true
   ·simp [he]
   ·simp only[he];have:(((s.takeWhile (· != 47)).length:Int) == -1)=false:=by rw[beq_eq_false_iff_ne];omega
    simp [this]
theorem chJ (s:List UInt8):Lib.cut s [47]=(s.takeWhile (· != 47),(s.dropWhile (· != 47)).tail,!(s.dropWhile (· != 47)).isEmpty):=by
 unfold Lib.cut;rw[cdE];have hs:=(List.takeWhile_append_dropWhile (p:=(· != (47:UInt8))) (l:=s)).symm;by_cases he:(s.dropWhile (· != 47)).isEmpty=true
 ·have h0:s.dropWhile (· != 47)=[]:=by simpa using he
  rw[if_pos he,if_neg (by decide),h0];rw[h0,append_nil] at hs;rw[← hs];rfl
 ·rw[if_neg he,if_pos (by omega)];generalize s.dropWhile (· != 47)=d at *;generalize s.takeWhile (· != 47)=t at *;subst hs;have h1:(!d.isEmpty)=true:=by simpa using he
  rw[h1,Int.toNat_natCast];refine Prod.ext ?_ (Prod.ext ?_ rfl)
  ·simp
  ·simp only[List.length_singleton];rw[← drop_drop,List.drop_left,List.drop_one]
theorem cbR (s:List UInt8):Lib.hasPrefix s [45]=jL s/\Lib.trimPrefix s [45]=kr s:=by
 have h1:Lib.hasPrefix s [45]=jL s:=by
  unfold Lib.hasPrefix jL;cases s with
  |nil=>rfl
  |cons c s=>simp [List.isPrefixOf];rw[Bool.eq_iff_iff];simp;exact eq_comm
 refine⟨h1,?_⟩;unfold Lib.trimPrefix kr;rw[h1];cases s with
 |nil=>simp
 |cons c s=>simp
theorem WU (l:List UInt8) (w:World) :
 Calls Tryz.prog 59 #[str l,.string ⟨#[45]⟩] w (fun e w'=>e=.returned (.tuple #[str (kr l),.bool (jL l)])/\w=w'):=by
 refine(Tryz.strings_CutPrefix ⟨l.toArray⟩ ⟨#[45]⟩ w).mono ?_;rintro e w' ⟨rfl,rfl⟩;refine⟨?_,rfl⟩;have:=cbR l;show Ending.returned (.tuple #[.string ⟨(Lib.trimPrefix l [45]).toArray⟩,.bool (Lib.hasPrefix l [45])])=_;rw[this.1,this.2]
theorem cjX (l:List UInt8) (hl:l.length<=100000) (w:World) (hG:Gr w) :
 Calls Tryz.prog 60 #[str l,.string ⟨#[47]⟩] w (fun e w'=>e=.returned (.tuple #[str (l.takeWhile (· != 47)),str (l.dropWhile (· != 47)).tail,.bool (!(l.dropWhile (· != 47)).isEmpty)])/\∃ n,w'=w.drewN n):=by
 obtain⟨m,hm⟩:=hG.maxLen;refine(Tryz.strings_Cut ⟨l.toArray⟩ ⟨#[47]⟩ m w (by have:=GF l hl (show 100000<=4294967280 by omega);omega) hm).mono ?_;rintro e w' ⟨rfl,hw⟩;refine⟨?_,hw⟩;have:=chJ l;show Ending.returned (.tuple #[.string ⟨(Lib.cut l [47]).1.toArray⟩,.string ⟨(Lib.cut l [47]).2.1.toArray⟩,.bool (Lib.cut l [47]).2.2])=_;rw[this]
def kS (w:World) (l:List UInt8) (e:Ending) (w':World):Prop :=
 ∃ v,e=.returned (.tuple #[v,.int .i64 (jr l).2])/\IsQ w' v (jr l).1/\Below w.heap.size w w'
theorem kS.err {w w':World}{l:List UInt8}{k:Int}(hk:jr l=(0,k)) (hb:Below w.heap.size w w'):kS w l (.returned (.tuple #[lo false 0 0,.int .i64 k])) w':=by
 refine⟨lo false 0 0,by rw[hk],?_,hb⟩;rw[hk];exact Num.low 0 rfl rfl js (show 1<B by decide)
theorem ko {l:List UInt8}(hl:¬ 4000<l.length) (h:kn l=none):jr l=(0,4):=by unfold jr;rw[if_neg hl,h]
theorem Gn {l:List UInt8}{r:Rat}(hl:¬ 4000<l.length) (h:kn l=some r):jr l=if kg r=l then (r,0) else (0,4):=by unfold jr;rw[if_neg hl,h]
theorem CH (l:List UInt8):(kr l).length<=l.length:=by unfold kr;split<;>simp
theorem GX (l:List UInt8):(kf l).length<=l.length:=by
 have h:=congrArg List.length (List.takeWhile_append_dropWhile (p:=(· != (47:UInt8))) (l:=kr l));rw[length_append] at h;have:=CH l;unfold kf;omega
theorem Je (l:List UInt8):(jc l).length<=l.length+1:=by
 unfold jc;have h1:=CH l;have h:=congrArg List.length (List.takeWhile_append_dropWhile (p:=(· != (47:UInt8))) (l:=kr l));rw[length_append] at h;split
 ·simp
 ·rw[List.length_tail];omega
theorem ciJ {l:List UInt8}(h:kE l=true):∀ c∈l,jP c=true:=by
 unfold kE at h;rw[and_eq_true,List.all_eq_true] at h;exact h.2
theorem KM {l:List UInt8}{k:Nat}(h:kE l=true) (hl:l.length<=19*k):cR l<B^k :=
 lt_of_lt_of_le (JX l (ciJ h)) (Gi hl)
theorem Kw {k:Nat}(hk:1<=k):1<B^k:=lt_of_lt_of_le (show 1<B^1 by decide) (pow_le_pow_right js hk)
theorem YU {n k:Nat}(neg:Bool) (h:n<B^k) (hk:1<=k):Siz (yz neg n) k:=by
 have h4:=zS neg n;have h1:=Kw hk;unfold Siz yz;rw[h4.1,h4.2];refine⟨?_,h1⟩;cases neg
 ·simpa using h
 ·simpa using h
theorem cgS {n k:Nat}(h:n<B^k) (hk:1<=k):Siz ((n:Nat):Rat) k:=by
 refine⟨?_,Kw hk⟩;show ((n:Nat):Int).natAbs<B^k;simpa using h
theorem cjS (l:List UInt8) (w:World) (hl:l.length<=100000) (hG:Gr w):Calls Tryz.prog 22 #[str l] w (kS w l):=by
 by_cases h4:4000<l.length
 ·have hr:jr l=(0,5):=by unfold jr;rw[if_pos h4]
  have HR:=hid hr;have hi:(4000:Int)<(l.length:Int):=by omega
  clear hr h4 hG
  go_enter Tryz.func22,Tryz.ntmps22
  go_wp2_with fail;refine bodyPost_ret (v:=.tuple #[lo false 0 0,.int .i64 5]) (by simp [results,Tryz.results22,go_sem]) rfl ?_;exact kS.err HR.out (cW w _)
 ·have hi:¬ (4000:Int)<(l.length:Int):=by omega
  have HG:=hid hG;have H4:=hid h4;have HNA:=hid (fun W (hW:Below w.heap.size w W)=>Gu (kf l) W (by have:=GX l;omega) (hG.below hW hG.size));have HNB:=hid (fun W (hW:Below w.heap.size w W)=>Gu (jc l) W (by have:=Je l;omega) (hG.below hW hG.size));have HCut:=hid (fun W (hW:Below w.heap.size w W)=>cjX (kr l) (by have:=CH l;omega) W (hG.below hW hG.size));clear hG h4
  go_enter Tryz.func22,Tryz.ntmps22
  go_wp2_with fail;refine(WU l _).mono ?_;rintro e w1 ⟨rfl,rfl⟩;go_wp2_with fail;obtain⟨W0,hW0,hb0,hz,hs⟩:=boxz w;rw[← hW0];clear hW0;have HZ:=hid hz;have HW0:=hid hb0;have hb0:=Below.refl W0.heap.size W0;clear hz;clear hs;refine(HCut.out _ HW0.out).mono ?_;rintro e W2 ⟨rfl,q,rfl⟩;have HA2:Hid (Below W0.heap.size W0 (W0.drewN q)):=kW hb0;clear hb0;generalize W0.drewN q=W2 at *;by_cases hs:((kr l).dropWhile (· != 47)).isEmpty=true
  ·have hbe:jc l=[49]:=by unfold jc;rw[if_pos hs]
   have HNB:=hid (fun W hW=>show Calls Tryz.prog 61 #[.string ⟨#[49]⟩] W (WH W (jc l)) from(by
    have:=HNB.out W hW;rw[show str (jc l)=.string ⟨#[49]⟩ from by rw[hbe]] at this;exact this))
   rw[hs];show _;rw[show (kr l).takeWhile (· != 47)=kf l from rfl];clear hs hbe;go_wp2_with fail;refine(HNA.out _ (cj HW0.out HA2.out)).mono ?_;rintro e W3 (⟨hok1,va,rfl,hva,hb⟩|⟨hok1,rfl,hb⟩)
   ·have HVA:=hid hva;have HO1:=hid hok1;have HA3:=hid (cj HA2.out hb);obtain⟨aa,al,ac,rfl,_⟩:=hva.form;clear hva hok1 hb HNA HA2;go_wp2_with fail;refine(HNB.out _ (cj HW0.out HA3.out)).mono ?_;rintro e W4 (⟨hok2,vb,rfl,hvb,hb⟩|⟨hok2,rfl,hb⟩)
    ·obtain⟨ba,bl,bc,rfl,_,hbz,_⟩:=hvb.form;have HVB:=hid hvb;have HVA:=hid (HVA.out.below hb (le_refl _));have HO2:=hid hok2;have HA4:=hid (cj HA3.out hb);by_cases hd0:cR (jc l)=0
     ·have hbl:bl=0:=hbz.2 hd0;have HD0:=hid hd0;subst hbl;clear hvb hok2 hb HNB HA3 hbz hd0;have hfin:=kS.err (ko H4.out (by unfold kn;rw[HO1.out,HO2.out,HD0.out];rfl)) (kJ HW0.out HA4.out (le_refl _) (.bool false) (.int .u64 0) (.int .u64 0) (.pointer none));have HFin:=hid hfin
      (obtain⟨z0,z1,z2,z3,zf0,zf1,zf2,zf3⟩:=HZ.out.zed HA4.out)
      clear hfin;go_wp2_with fail;refine bodyPost_ret (v:=.tuple #[lo false 0 0,.int .i64 4]) (by simp [results,Tryz.results22,go_sem,z0,z1,z2,z3]) rfl ?_;exact HFin.out
     ·have hbl:(((bl:Nat):Int) == 0)=false:=by rw[beq_eq_false_iff_ne];intro e;exact hd0 (hbz.1 (by omega))
      have hpar:kn l=some (yz (jL l) (cR (kf l))*((cR (jc l):Nat):Rat)⁻¹):=by
       unfold kn;rw[HO1.out,HO2.out,Bool.true_and,Bool.true_and,if_pos (by simpa using hd0)]
      have HPar:=hid (Gn H4.out hpar);have HWn:=hid (fun v W (hv:cn W v (cR (kf l)))=>(JT (jL l) v _ W hv).mono fun e W' h=>h.q (r:=yz (jL l) (cR (kf l))) (zS _ _).1 (zS _ _).2);have HWd:=hid (fun v W (hv:cn W v (cR (jc l)))=>(JT false v _ W hv).mono fun e W' h=>h.q (r:=((cR (jc l):Nat):Rat)) rfl rfl);have hdn:(((cR (jc l):Nat):Rat)).num≠0:=by
       show ((cR (jc l):Nat):Int)≠0;omega
      have HRc:=hid (fun v W (hv:IsQ W v ((cR (jc l):Nat):Rat))=>ccE v _ W hv hdn);obtain⟨K,hK1,hK2,hK3⟩:∃ K:Nat,4001<=19*K/\(K:Int)<=1073741824/\((K+K:Nat):Int)<=1073741824:=⟨300,by omega,by omega,by omega⟩;have hz1:=YU (k:=K) (jL l) (KM HO1.out (by have:=GX l;omega)) (by omega);have hz2:=cgS (k:=K) (KM HO2.out (by have:=Je l;omega)) (by omega);have hz3:=hz2.inv hdn;have HTm:=hid (fun v1 v2 W h1 h2 hG=>Ju v1 v2 (yz (jL l) (cR (kf l))) ((cR (jc l):Nat):Rat)⁻¹ K W h1 h2 hz1 hz3 hK2 hG);have HTx:=hid (fun v W h=>ccs v (yz (jL l) (cR (kf l))*((cR (jc l):Nat):Rat)⁻¹) (K+K) W h (hz1.mul hz3) hK3);clear hz1 hz2 hz3 hK1 hK2 hK3 hdn hpar hvb hok2 hb HNB HA3 hbz hd0;generalize yz (jL l) (cR (kf l))=qn at *;generalize hdv:((cR (jc l):Nat):Rat)=qd at *;go_wp2_with fail;refine(HWn.out _ _ HVA.out).mono ?_;rintro e W5 ⟨v1,rfl,hv1,hb⟩;have HV1:=hid hv1;have HVB:=hid (HVB.out.below hb (le_refl _));have HA5:=hid (cj HA4.out hb);obtain⟨_,_,_,_,rfl⟩:=hv1.form;clear hv1 hb HWn HA4 HVA hdv;go_wp2_with fail;refine(HWd.out _ _ HVB.out).mono ?_;rintro e W6 ⟨v2,rfl,hv2,hb⟩;have HV1:=hid (HV1.out.below hb (le_refl _));have HV2:=hid hv2;have HA6:=hid (cj HA5.out hb);obtain⟨_,_,_,_,rfl⟩:=hv2.form;clear hv2 hb HWd HA5 HVB;go_wp2_with fail;refine(HRc.out _ _ HV2.out).mono ?_;rintro e W7 ⟨v3,rfl,hv3,hb⟩;have HV1:=hid (HV1.out.below hb (le_refl _));have HV3:=hid hv3;have HA7:=hid (cj HA6.out hb);obtain⟨_,_,_,_,rfl⟩:=hv3.form;clear hv3 hb HRc HA6 HV2;go_wp2_with fail;refine(HTm.out _ _ _ HV1.out HV3.out (HG.out.below (cj HW0.out HA7.out) HG.out.size)).mono ?_;rintro e W8 ⟨v4,rfl,hv4,hb⟩;have HV4:=hid hv4
      have HA8:=hid (cj HA7.out hb);obtain⟨sx,ax,bx,px,rfl⟩:=hv4.form;clear hv4 hb HTm HA7 HV1 HV3;have hlt:w.heap.size<W8.heap.size:=World.block_lt_of_cell? W8 ⟨w.heap.size,0,none⟩ (HZ.out.below HA8.out (le_refl _)).cells.1;go_wp2_with fail;obtain⟨W9,hW,hb,⟨g0,g1,g2,g3⟩⟩:=ZX W8 (.bool sx) (u ax) (u bx) (.pointer px);rw[← hW];clear hW;have HV4:=hid (HV4.out.below hb (le_refl _));have HA9:=hid (cj HA8.out hb);have m1:¬ w.heap.size=W8.heap.size:=by omega
      have m2:¬ W8.heap.size=w.heap.size:=by omega
      clear hb HA8 hlt;generalize W8.heap.size=bx1 at *;refine(HTx.out _ _ HV4.out).mono ?_;rintro e W10 ⟨rfl,hb⟩
      (have hh:=cE (b:=bx1) hb g0 g1 g2 g3;clear g0 g1 g2 g3;obtain⟨g0,g1,g2,g3⟩:=hh)
      have HV4:=hid (HV4.out.below hb (le_refl _));have HAx:=hid (cj HA9.out hb);clear hb HA9 HTx;by_cases hq:kg (qn*qd⁻¹)=l
      ·rw[hq];have hp:=HPar.out;rw[if_pos hq] at hp;have hz:=HZ.out.below HAx.out (le_refl _);have hfin:=uT.stored (a0:=.bool sx) (a1:=u ax) (a2:=u bx) (a3:=.pointer px) hz HV4.out (cj HW0.out HAx.out) (le_refl _);have HFin:=hid hfin;have HPv:=hid hp
       (obtain⟨z0,z1,z2,z3,zf0,zf1,zf2,zf3⟩:=HZ.out.zed HAx.out)
       clear hfin hz hq hp HPar;go_wp2_with fail;refine bodyPost_ret (v:=.tuple #[.agg #[.bool sx,u ax,u bx,.pointer px],.int .i64 0]) (by simp [results,Tryz.results22,go_sem,z0,z1,z2,z3]) rfl ?_;obtain⟨v,hv,hqq,hbb⟩:=HFin.out;injection hv with hv
       subst hv;refine⟨_,by rw[HPv.out],?_,hbb⟩;rw[HPv.out];exact hqq
      ·have hp:=HPar.out;rw[if_neg hq] at hp;have hfin:=kS.err hp (kJ HW0.out HAx.out (le_refl _) (.bool false) (.int .u64 0) (.int .u64 0) (.pointer none));have HFin:=hid hfin
       (obtain⟨z0,z1,z2,z3,zf0,zf1,zf2,zf3⟩:=HZ.out.zed HAx.out)
       clear hfin hp HPar HV4;generalize kg (qn*qd⁻¹)=tq at *;have hqb:(tq == l)=false:=by simpa using hq
       clear hq;go_wp2_with fail;refine bodyPost_ret (v:=.tuple #[lo false 0 0,.int .i64 4]) (by simp [results,Tryz.results22,go_sem,z0,z1,z2,z3]) rfl ?_;exact HFin.out
    ·have HO2:=hid hok2;have HA4:=hid (cj HA3.out hb);clear hok2 hb HNB HA3 HVA;have hfin:=kS.err (ko H4.out (by unfold kn;rw[HO2.out,Bool.and_false,Bool.false_and];rfl)) (kJ HW0.out HA4.out (le_refl _) (.bool false) (.int .u64 0) (.int .u64 0) (.pointer none));have HFin:=hid hfin
     (obtain⟨z0,z1,z2,z3,zf0,zf1,zf2,zf3⟩:=HZ.out.zed HA4.out)
     clear hfin;go_wp2_with fail;refine bodyPost_ret (v:=.tuple #[lo false 0 0,.int .i64 4]) (by simp [results,Tryz.results22,go_sem,z0,z1,z2,z3]) rfl ?_;exact HFin.out
   ·have HO1:=hid hok1;have HA3:=hid (cj HA2.out hb);clear hok1 hb HNA HA2;go_wp2_with fail;refine(HNB.out _ (cj HW0.out HA3.out)).mono ?_;rintro e W4 (⟨hok2,vb,rfl,hvb,hb⟩|⟨hok2,rfl,hb⟩)
    ·obtain⟨ba,bl,bc,rfl,_⟩:=hvb.form;have HA4:=hid (cj HA3.out hb);clear hvb hok2 hb HNB HA3;have hfin:=kS.err (ko H4.out (by unfold kn;rw[HO1.out,Bool.false_and,Bool.false_and];rfl)) (kJ HW0.out HA4.out (le_refl _) (.bool false) (.int .u64 0) (.int .u64 0) (.pointer none));have HFin:=hid hfin
     (obtain⟨z0,z1,z2,z3,zf0,zf1,zf2,zf3⟩:=HZ.out.zed HA4.out)
     clear hfin;go_wp2_with fail;refine bodyPost_ret (v:=.tuple #[lo false 0 0,.int .i64 4]) (by simp [results,Tryz.results22,go_sem,z0,z1,z2,z3]) rfl ?_;exact HFin.out
    ·have HA4:=hid (cj HA3.out hb);clear hok2 hb HNB HA3;have hfin:=kS.err (ko H4.out (by unfold kn;rw[HO1.out,Bool.false_and,Bool.false_and];rfl)) (kJ HW0.out HA4.out (le_refl _) (.bool false) (.int .u64 0) (.int .u64 0) (.pointer none));have HFin:=hid hfin
     (obtain⟨z0,z1,z2,z3,zf0,zf1,zf2,zf3⟩:=HZ.out.zed HA4.out)
     clear hfin;go_wp2_with fail;refine bodyPost_ret (v:=.tuple #[lo false 0 0,.int .i64 4]) (by simp [results,Tryz.results22,go_sem,z0,z1,z2,z3]) rfl ?_;exact HFin.out
  ·have hs:((kr l).dropWhile (· != 47)).isEmpty=false:=by simpa using hs
   have hbe:((kr l).dropWhile (· != 47)).tail=jc l:=by unfold jc;rw[hs];rfl
   rw[hs,hbe,show (kr l).takeWhile (· != 47)=kf l from rfl];clear hs hbe;go_wp2_with fail;refine(HNA.out _ (cj HW0.out HA2.out)).mono ?_;rintro e W3 (⟨hok1,va,rfl,hva,hb⟩|⟨hok1,rfl,hb⟩)
   ·have HVA:=hid hva;have HO1:=hid hok1;have HA3:=hid (cj HA2.out hb);obtain⟨aa,al,ac,rfl,_⟩:=hva.form;clear hva hok1 hb HNA HA2;go_wp2_with fail;refine(HNB.out _ (cj HW0.out HA3.out)).mono ?_;rintro e W4 (⟨hok2,vb,rfl,hvb,hb⟩|⟨hok2,rfl,hb⟩)
    ·obtain⟨ba,bl,bc,rfl,_,hbz,_⟩:=hvb.form;have HVB:=hid hvb;have HVA:=hid (HVA.out.below hb (le_refl _));have HO2:=hid hok2;have HA4:=hid (cj HA3.out hb);by_cases hd0:cR (jc l)=0
     ·have hbl:bl=0:=hbz.2 hd0;have HD0:=hid hd0;subst hbl;clear hvb hok2 hb HNB HA3 hbz hd0;have hfin:=kS.err (ko H4.out (by unfold kn;rw[HO1.out,HO2.out,HD0.out];rfl)) (kJ HW0.out HA4.out (le_refl _) (.bool false) (.int .u64 0) (.int .u64 0) (.pointer none));have HFin:=hid hfin
      (obtain⟨z0,z1,z2,z3,zf0,zf1,zf2,zf3⟩:=HZ.out.zed HA4.out)
      clear hfin;go_wp2_with fail;refine bodyPost_ret (v:=.tuple #[lo false 0 0,.int .i64 4]) (by simp [results,Tryz.results22,go_sem,z0,z1,z2,z3]) rfl ?_;exact HFin.out
     ·have hbl:(((bl:Nat):Int) == 0)=false:=by rw[beq_eq_false_iff_ne];intro e;exact hd0 (hbz.1 (by omega))
      have hpar:kn l=some (yz (jL l) (cR (kf l))*((cR (jc l):Nat):Rat)⁻¹):=by
       unfold kn;rw[HO1.out,HO2.out,Bool.true_and,Bool.true_and,if_pos (by simpa using hd0)]
      have HPar:=hid (Gn H4.out hpar);have HWn:=hid (fun v W (hv:cn W v (cR (kf l)))=>(JT (jL l) v _ W hv).mono fun e W' h=>h.q (r:=yz (jL l) (cR (kf l))) (zS _ _).1 (zS _ _).2);have HWd:=hid (fun v W (hv:cn W v (cR (jc l)))=>(JT false v _ W hv).mono fun e W' h=>h.q (r:=((cR (jc l):Nat):Rat)) rfl rfl);have hdn:(((cR (jc l):Nat):Rat)).num≠0:=by
       show ((cR (jc l):Nat):Int)≠0;omega
      have HRc:=hid (fun v W (hv:IsQ W v ((cR (jc l):Nat):Rat))=>ccE v _ W hv hdn);obtain⟨K,hK1,hK2,hK3⟩:∃ K:Nat,4001<=19*K/\(K:Int)<=1073741824/\((K+K:Nat):Int)<=1073741824:=⟨300,by omega,by omega,by omega⟩;have hz1:=YU (k:=K) (jL l) (KM HO1.out (by have:=GX l;omega)) (by omega);have hz2:=cgS (k:=K) (KM HO2.out (by have:=Je l;omega)) (by omega);have hz3:=hz2.inv hdn;have HTm:=hid (fun v1 v2 W h1 h2 hG=>Ju v1 v2 (yz (jL l) (cR (kf l))) ((cR (jc l):Nat):Rat)⁻¹ K W h1 h2 hz1 hz3 hK2 hG);have HTx:=hid (fun v W h=>ccs v (yz (jL l) (cR (kf l))*((cR (jc l):Nat):Rat)⁻¹) (K+K) W h (hz1.mul hz3) hK3);clear hz1 hz2 hz3 hK1 hK2 hK3 hdn hpar hvb hok2 hb HNB HA3 hbz hd0;generalize yz (jL l) (cR (kf l))=qn at *;generalize hdv:((cR (jc l):Nat):Rat)=qd at *;go_wp2_with fail;refine(HWn.out _ _ HVA.out).mono ?_;rintro e W5 ⟨v1,rfl,hv1,hb⟩;have HV1:=hid hv1;have HVB:=hid (HVB.out.below hb (le_refl _));have HA5:=hid (cj HA4.out hb);obtain⟨_,_,_,_,rfl⟩:=hv1.form;clear hv1 hb HWn HA4 HVA hdv;go_wp2_with fail;refine(HWd.out _ _ HVB.out).mono ?_;rintro e W6 ⟨v2,rfl,hv2,hb⟩;have HV1:=hid (HV1.out.below hb (le_refl _));have HV2:=hid hv2;have HA6:=hid (cj HA5.out hb);obtain⟨_,_,_,_,rfl⟩:=hv2.form;clear hv2 hb HWd HA5 HVB;go_wp2_with fail;refine(HRc.out _ _ HV2.out).mono ?_;rintro e W7 ⟨v3,rfl,hv3,hb⟩;have HV1:=hid (HV1.out.below hb (le_refl _));have HV3:=hid hv3;have HA7:=hid (cj HA6.out hb);obtain⟨_,_,_,_,rfl⟩:=hv3.form;clear hv3 hb HRc HA6 HV2;go_wp2_with fail;refine(HTm.out _ _ _ HV1.out HV3.out (HG.out.below (cj HW0.out HA7.out) HG.out.size)).mono ?_;rintro e W8 ⟨v4,rfl,hv4,hb⟩;have HV4:=hid hv4
      have HA8:=hid (cj HA7.out hb);obtain⟨sx,ax,bx,px,rfl⟩:=hv4.form;clear hv4 hb HTm HA7 HV1 HV3;have hlt:w.heap.size<W8.heap.size:=World.block_lt_of_cell? W8 ⟨w.heap.size,0,none⟩ (HZ.out.below HA8.out (le_refl _)).cells.1;go_wp2_with fail;obtain⟨W9,hW,hb,⟨g0,g1,g2,g3⟩⟩:=ZX W8 (.bool sx) (u ax) (u bx) (.pointer px);rw[← hW];clear hW;have HV4:=hid (HV4.out.below hb (le_refl _));have HA9:=hid (cj HA8.out hb);have m1:¬ w.heap.size=W8.heap.size:=by omega
      have m2:¬ W8.heap.size=w.heap.size:=by omega
      clear hb HA8 hlt;generalize W8.heap.size=bx1 at *;refine(HTx.out _ _ HV4.out).mono ?_;rintro e W10 ⟨rfl,hb⟩
      (have hh:=cE (b:=bx1) hb g0 g1 g2 g3;clear g0 g1 g2 g3;obtain⟨g0,g1,g2,g3⟩:=hh)
      have HV4:=hid (HV4.out.below hb (le_refl _));have HAx:=hid (cj HA9.out hb);clear hb HA9 HTx;by_cases hq:kg (qn*qd⁻¹)=l
      ·rw[hq];have hp:=HPar.out;rw[if_pos hq] at hp;have hz:=HZ.out.below HAx.out (le_refl _);have hfin:=uT.stored (a0:=.bool sx) (a1:=u ax) (a2:=u bx) (a3:=.pointer px) hz HV4.out (cj HW0.out HAx.out) (le_refl _);have HFin:=hid hfin;have HPv:=hid hp
       (obtain⟨z0,z1,z2,z3,zf0,zf1,zf2,zf3⟩:=HZ.out.zed HAx.out)
       clear hfin hz hq hp HPar;go_wp2_with fail;refine bodyPost_ret (v:=.tuple #[.agg #[.bool sx,u ax,u bx,.pointer px],.int .i64 0]) (by simp [results,Tryz.results22,go_sem,z0,z1,z2,z3]) rfl ?_;obtain⟨v,hv,hqq,hbb⟩:=HFin.out;injection hv with hv
       subst hv;refine⟨_,by rw[HPv.out],?_,hbb⟩;rw[HPv.out];exact hqq
      ·have hp:=HPar.out;rw[if_neg hq] at hp;have hfin:=kS.err hp (kJ HW0.out HAx.out (le_refl _) (.bool false) (.int .u64 0) (.int .u64 0) (.pointer none));have HFin:=hid hfin
       (obtain⟨z0,z1,z2,z3,zf0,zf1,zf2,zf3⟩:=HZ.out.zed HAx.out)
       clear hfin hp HPar HV4;generalize kg (qn*qd⁻¹)=tq at *;have hqb:(tq == l)=false:=by simpa using hq
       clear hq;go_wp2_with fail;refine bodyPost_ret (v:=.tuple #[lo false 0 0,.int .i64 4]) (by simp [results,Tryz.results22,go_sem,z0,z1,z2,z3]) rfl ?_;exact HFin.out
    ·have HO2:=hid hok2;have HA4:=hid (cj HA3.out hb);clear hok2 hb HNB HA3 HVA;have hfin:=kS.err (ko H4.out (by unfold kn;rw[HO2.out,Bool.and_false,Bool.false_and];rfl)) (kJ HW0.out HA4.out (le_refl _) (.bool false) (.int .u64 0) (.int .u64 0) (.pointer none));have HFin:=hid hfin
     (obtain⟨z0,z1,z2,z3,zf0,zf1,zf2,zf3⟩:=HZ.out.zed HA4.out)
     clear hfin;go_wp2_with fail;refine bodyPost_ret (v:=.tuple #[lo false 0 0,.int .i64 4]) (by simp [results,Tryz.results22,go_sem,z0,z1,z2,z3]) rfl ?_;exact HFin.out
   ·have HO1:=hid hok1;have HA3:=hid (cj HA2.out hb);clear hok1 hb HNA HA2;go_wp2_with fail;refine(HNB.out _ (cj HW0.out HA3.out)).mono ?_;rintro e W4 (⟨hok2,vb,rfl,hvb,hb⟩|⟨hok2,rfl,hb⟩)
    ·obtain⟨ba,bl,bc,rfl,_⟩:=hvb.form;have HA4:=hid (cj HA3.out hb);clear hvb hok2 hb HNB HA3;have hfin:=kS.err (ko H4.out (by unfold kn;rw[HO1.out,Bool.false_and,Bool.false_and];rfl)) (kJ HW0.out HA4.out (le_refl _) (.bool false) (.int .u64 0) (.int .u64 0) (.pointer none));have HFin:=hid hfin
     (obtain⟨z0,z1,z2,z3,zf0,zf1,zf2,zf3⟩:=HZ.out.zed HA4.out)
     clear hfin;go_wp2_with fail;refine bodyPost_ret (v:=.tuple #[lo false 0 0,.int .i64 4]) (by simp [results,Tryz.results22,go_sem,z0,z1,z2,z3]) rfl ?_;exact HFin.out
    ·have HA4:=hid (cj HA3.out hb);clear hok2 hb HNB HA3;have hfin:=kS.err (ko H4.out (by unfold kn;rw[HO1.out,Bool.false_and,Bool.false_and];rfl)) (kJ HW0.out HA4.out (le_refl _) (.bool false) (.int .u64 0) (.int .u64 0) (.pointer none));have HFin:=hid hfin
     (obtain⟨z0,z1,z2,z3,zf0,zf1,zf2,zf3⟩:=HZ.out.zed HA4.out)
     clear hfin;go_wp2_with fail;refine bodyPost_ret (v:=.tuple #[lo false 0 0,.int .i64 4]) (by simp [results,Tryz.results22,go_sem,z0,z1,z2,z3]) rfl ?_;exact HFin.out
def IsS (w:World) (v:Value) (lo hi:Rat):Prop:=∃ s1 a1 b1 p1 s2 a2 b2 p2,v=.agg #[.bool s1,u a1,u b1,.pointer p1,.bool s2,u a2,u b2,.pointer p2]/\
 IsQ w (.agg #[.bool s1,u a1,u b1,.pointer p1]) lo/\IsQ w (.agg #[.bool s2,u a2,u b2,.pointer p2]) hi
theorem IsS.below {w w':World}{v:Value}{lo hi:Rat}{k:Nat}(h:IsS w v lo hi) (hb:Below k w w') (hk:w.heap.size<=k):IsS w' v lo hi:=by
 obtain⟨s1,a1,b1,p1,s2,a2,b2,p2,hv,h1,h2⟩:=h;exact⟨s1,a1,b1,p1,s2,a2,b2,p2,hv,h1.below hb hk,h2.below hb hk⟩
def KS (w:World) (lo hi:Rat) (e:Ending) (w':World):Prop:=∃ v,e=.returned v/\IsS w' v lo hi/\Below w.heap.size w w'
def NBox (W:World) (R:Nat):Prop:=∃ (cs:Array Value) (t:TypeId) (fr:Nat×Nat),W.heap[R]?=some (.cells cs t fr)/\t≠30/\∀ x,cs[0]?=some x->∃ s,x=.bool s
theorem cn.other {W W':World}{R:Nat}{v:Value}{n:Nat}(hR:NBox W R) (h:cn W v n) (ho:ja R W W'):cn W' v n:=by
 obtain⟨cs,t,fr,hb,ht,_⟩:=hR;obtain⟨xs,⟨⟨ao,c,rfl,h1,h2,hr⟩,ok,typ⟩,htr,hv⟩:=h;refine⟨xs,⟨⟨ao,c,rfl,h1,h2,fun hn=>?_⟩,ok,typ.other hb ht ho⟩,htr,hv⟩;obtain⟨b,off,rfl,row⟩:=hr hn;refine⟨b,off,rfl,ho.row ?_ row⟩;intro e;obtain⟨cs',fr',hc⟩:=typ ⟨b,off,none⟩ _ _ rfl hn;rw[show (⟨b,off,none⟩:Addr).block=R from e,hb] at hc;injection hc with hc
 injection hc with _ hc
 exact ht hc
theorem Num.other {W W':World}{R:Nat}{v:Value}{neg:Bool}{n d:Nat}(hR:NBox W R) (h:Num W v neg n d) (ho:ja R W W'):Num W' v neg n d:=by
 cases h with
 |low l hv hd hn hdB=>exact .low l hv hd hn hdB
 |wide b x y hv hx hy h1 h2 hB h0 hd =>
  have hb:b≠R:=by
   intro e;subst e;obtain⟨_,_,_,rfl,_⟩:=h1.form;obtain⟨cs,t,fr,hb,_,hz⟩:=hR;rw[World.cell?,hb] at hx;obtain⟨s,e⟩:=hz _ hx;cases e
  exact .wide b x y hv ((ho.cell (p:=⟨b,0,none⟩) hb).trans hx) ((ho.cell (p:=⟨b,1,none⟩) hb).trans hy) (h1.other hR ho) (h2.other hR ho) ⟨hB.1,hB.2.to (ho.block b hb)⟩ h0 hd
theorem IsS.other {W W':World}{R:Nat}{v:Value}{lo hi:Rat}(hR:NBox W R) (h:IsS W v lo hi) (ho:ja R W W'):IsS W' v lo hi:=by
 obtain⟨s1,a1,b1,p1,s2,a2,b2,p2,hv,h1,h2⟩:=h;exact⟨s1,a1,b1,p1,s2,a2,b2,p2,hv,Num.other hR h1 ho,Num.other hR h2 ho⟩
def ju (W:World) (b:Nat) (c0 c1 c2 c3 c4 c5 c6 c7:Value):Prop:=W.heap[b]?=some (.cells #[c0,c1,c2,c3,c4,c5,c6,c7] 36 (0,0))
def caM (W:World) (b:Nat):Prop:=ju W b (.bool false) (.int .u64 0) (.int .u64 0) (.pointer none) (.bool false) (.int .u64 0) (.int .u64 0) (.pointer none)
theorem ju.of_block {W W':World}{b:Nat}{c0 c1 c2 c3 c4 c5 c6 c7:Value}(h:ju W b c0 c1 c2 c3 c4 c5 c6 c7) (hb:W'.heap[b]?=W.heap[b]?):ju W' b c0 c1 c2 c3 c4 c5 c6 c7:=hb.trans h
theorem ju.lt {W:World}{b:Nat}{c0 c1 c2 c3 c4 c5 c6 c7:Value}(h:ju W b c0 c1 c2 c3 c4 c5 c6 c7):b<W.heap.size:=(Array.getElem?_eq_some_iff.1 h).1
theorem ju.below {W W':World}{b k:Nat}{c0 c1 c2 c3 c4 c5 c6 c7:Value}(h:ju W b c0 c1 c2 c3 c4 c5 c6 c7) (hb:Below k W W') (hk:W.heap.size<=k):ju W' b c0 c1 c2 c3 c4 c5 c6 c7 :=
 h.of_block (hb.block b (lt_of_lt_of_le h.lt hk))
theorem ju.cells {W:World}{b:Nat}{c0 c1 c2 c3 c4 c5 c6 c7:Value}(h:ju W b c0 c1 c2 c3 c4 c5 c6 c7) :
 W.cell? ⟨b,0,none⟩=some c0/\W.cell? ⟨b,1,none⟩=some c1/\W.cell? ⟨b,2,none⟩=some c2/\W.cell? ⟨b,3,none⟩=some c3/\
 W.cell? ⟨b,4,none⟩=some c4/\W.cell? ⟨b,5,none⟩=some c5/\W.cell? ⟨b,6,none⟩=some c6/\W.cell? ⟨b,7,none⟩=some c7:=by
 unfold ju at h;simp [World.cell?,h]
theorem ju.frozen {W:World}{b:Nat}{c0 c1 c2 c3 c4 c5 c6 c7:Value}(h:ju W b c0 c1 c2 c3 c4 c5 c6 c7) (i:Nat):W.frozen? ⟨b,i,none⟩=false:=by
 unfold ju at h;simp [World.frozen?,h]
theorem ju.nbox {W:World}{b:Nat}{s:Bool}{c1 c2 c3 c4 c5 c6 c7:Value}(h:ju W b (.bool s) c1 c2 c3 c4 c5 c6 c7):NBox W b :=
 ⟨_,_,_,h,by decide,fun x hx=>⟨s,by simpa using hx.symm⟩⟩
theorem ju.new (w:World) (c0 c1 c2 c3 c4 c5 c6 c7:Value):ju (w.alloc (.cells #[c0,c1,c2,c3,c4,c5,c6,c7] 36)) w.heap.size c0 c1 c2 c3 c4 c5 c6 c7:=heap_alloc_new w _
theorem kD {W:World}{b o:Nat}{v:Value}{cs:Array Value}{t:TypeId}(h:W.heap[b]?=some (.cells cs t (0,0))):(W.setCell ⟨b,o,none⟩ v).heap[b]?=some (.cells (cs.setIfInBounds o v) t (0,0)):=by
 simp only[World.setCell,Array.getElem?_modify,if_pos,h];rfl
theorem ju.setLow {W:World}{b:Nat}{c0 c1 c2 c3 c4 c5 c6 c7:Value}(h:ju W b c0 c1 c2 c3 c4 c5 c6 c7) (d0 d1 d2 d3:Value) :
 ju ((((W.setCell ⟨b,0,none⟩ d0).setCell ⟨b,1,none⟩ d1).setCell ⟨b,2,none⟩ d2).setCell ⟨b,3,none⟩ d3) b d0 d1 d2 d3 c4 c5 c6 c7:=by
 have:=kD (o:=3) (v:=d3) (kD (o:=2) (v:=d2) (kD (o:=1) (v:=d1) (kD (o:=0) (v:=d0) h)));exact this
theorem ju.setHigh {W:World}{b:Nat}{c0 c1 c2 c3 c4 c5 c6 c7:Value}(h:ju W b c0 c1 c2 c3 c4 c5 c6 c7) (d4 d5 d6 d7:Value) :
 ju ((((W.setCell ⟨b,4,none⟩ d4).setCell ⟨b,5,none⟩ d5).setCell ⟨b,6,none⟩ d6).setCell ⟨b,7,none⟩ d7) b c0 c1 c2 c3 d4 d5 d6 d7:=by
 have:=kD (o:=7) (v:=d7) (kD (o:=6) (v:=d6) (kD (o:=5) (v:=d5) (kD (o:=4) (v:=d4) h)));exact this
theorem cdY (W:World) (b i:Nat) (d0 d1 d2 d3:Value):ja b W ((((W.setCell ⟨b,i,none⟩ d0).setCell ⟨b,i+1,none⟩ d1).setCell ⟨b,i+2,none⟩ d2).setCell ⟨b,i+3,none⟩ d3) :=
 ((((ja.refl b W).set i d0).set (i+1) d1).set (i+2) d2).set (i+3) d3
theorem only8 (W:World) (b:Nat) (d0 d1 d2 d3 d4 d5 d6 d7:Value):ja b W ((((((((W.setCell ⟨b,0,none⟩ d0).setCell ⟨b,1,none⟩ d1).setCell ⟨b,2,none⟩ d2).setCell ⟨b,3,none⟩ d3).setCell ⟨b,4,none⟩ d4).setCell ⟨b,5,none⟩ d5).setCell ⟨b,6,none⟩ d6).setCell ⟨b,7,none⟩ d7) :=
 ((((((((ja.refl b W).set 0 d0).set 1 d1).set 2 d2).set 3 d3).set 4 d4).set 5 d5).set 6 d6).set 7 d7
theorem KS.stored {w W:World}{R:Nat}{v:Value}{lo hi:Rat}(hR:NBox W R) (h:IsS W v lo hi) (hb:Below w.heap.size w W) (hw:w.heap.size<=R) (d0 d1 d2 d3 d4 d5 d6 d7:Value) :
 KS w lo hi (.returned v) ((((((((W.setCell ⟨R,0,none⟩ d0).setCell ⟨R,1,none⟩ d1).setCell ⟨R,2,none⟩ d2).setCell ⟨R,3,none⟩ d3).setCell ⟨R,4,none⟩ d4).setCell ⟨R,5,none⟩ d5).setCell ⟨R,6,none⟩ d6).setCell ⟨R,7,none⟩ d7) :=
 ⟨v,rfl,h.other hR (only8 W R d0 d1 d2 d3 d4 d5 d6 d7),hb.trans ((only8 W R d0 d1 d2 d3 d4 d5 d6 d7).below hw)⟩
def QAt (w:World) (b i:Nat) (v:Value):Prop:=∃ s a c p,v=.agg #[.bool s,u a,u c,.pointer p]/\
 w.cell? ⟨b,i,none⟩=some (.bool s)/\w.cell? ⟨b,i+1,none⟩=some (u a)/\w.cell? ⟨b,i+2,none⟩=some (u c)/\w.cell? ⟨b,i+3,none⟩=some (.pointer p)
theorem QAt.lt {w:World}{b i:Nat}{v:Value}(h:QAt w b i v):b<w.heap.size:=by
 obtain⟨_,_,_,_,_,h,_⟩:=h;exact World.block_lt_of_cell? w _ h
theorem QAt.below {w w':World}{b i k:Nat}{v:Value}(h:QAt w b i v) (hb:Below k w w') (hk:w.heap.size<=k):QAt w' b i v:=by
 have hlt:=lt_of_lt_of_le h.lt hk;obtain⟨s,a,c,p,hv,h0,h1,h2,h3⟩:=h;exact⟨s,a,c,p,hv,(hb.cell (p:=⟨b,i,none⟩) hlt).trans h0,(hb.cell (p:=⟨b,i+1,none⟩) hlt).trans h1,(hb.cell (p:=⟨b,i+2,none⟩) hlt).trans h2,(hb.cell (p:=⟨b,i+3,none⟩) hlt).trans h3⟩
def QSl (w:World) (v:Value) (rs:List Rat):Prop:=∃ ao cap,v=.slice ao rs.length cap/\rs.length<=cap/\(cap:Int)<=9223372036854775807/\
 (0<rs.length->∃ b off,ao=some ⟨b,off,none⟩/\∀ i,i<rs.length->∃ x,QAt w b (off+i*4) x/\IsQ w x (rs[i]?.getD 0))
def jz (r:Rat) (rs:List Rat):Rat:=rs.foldl (fun a x=>if x<a then x else a) r
def cT (r:Rat) (rs:List Rat):Rat:=rs.foldl (fun a x=>if a<x then x else a) r
theorem cez (r:Rat) (rs:List Rat) (x:Rat):jz r (rs++[x])=if x<jz r rs then x else jz r rs:=by unfold jz;rw[List.foldl_append];rfl
theorem cdX (r:Rat) (rs:List Rat) (x:Rat):cT r (rs++[x])=if cT r rs<x then x else cT r rs:=by unfold cT;rw[List.foldl_append];rfl
theorem Ex (r:Rat) (rs:List Rat):jz r rs=r\/jz r rs∈rs:=by
 induction rs generalizing r with
 |nil=>exact .inl rfl
 |cons x rs ih =>
  show jz (if x<r then x else r) rs=r\/_;rcases ih (if x<r then x else r) with h|h
  ·rw[show jz r (x::rs)=jz (if x<r then x else r) rs from rfl,h];split
   ·exact .inr (by simp)
   ·exact .inl rfl
  ·exact .inr (mem_cons_of_mem _ h)
theorem CP (r:Rat) (rs:List Rat):cT r rs=r\/cT r rs∈rs:=by
 induction rs generalizing r with
 |nil=>exact .inl rfl
 |cons x rs ih =>
  show cT (if r<x then x else r) rs=r\/_;rcases ih (if r<x then x else r) with h|h
  ·rw[show cT r (x::rs)=cT (if r<x then x else r) rs from rfl,h];split
   ·exact .inr (by simp)
   ·exact .inl rfl
  ·exact .inr (mem_cons_of_mem _ h)
theorem Uh {a b:Rat}(h:a<b):¬ b<a:=Rat.not_lt.2 (Rat.le_of_lt h)
def ArRel (w:World) (n0:Nat) (r:Rat) (rs:List Rat) (i:Value) (wr:World):Prop :=
 ∃ k s1 a1 b1 p1 s2 a2 b2 p2,i=.int .i64 ((k:Nat):Int)/\k<=rs.length/\ju wr (n0+1+1) (.bool s1) (u a1) (u b1) (.pointer p1) (.bool s2) (u a2) (u b2) (.pointer p2)/\
  IsQ w (.agg #[.bool s1,u a1,u b1,.pointer p1]) (jz r (rs.take k))/\IsQ w (.agg #[.bool s2,u a2,u b2,.pointer p2]) (cT r (rs.take k))/\
  caM wr (n0+1)/\Below w.heap.size w wr
set_option maxHeartbeats 1000000 in
theorem YP (v sl:Value) (r:Rat) (rs:List Rat) (k:Nat) (w:World) (h:IsQ w v r) (hs:QSl w sl rs) (z:Siz r k) (zs:∀ x∈rs,Siz x k) (hk:(k:Int)<=1073741824) (hl:(rs.length:Int)<=1048576) :
 Calls Tryz.prog 58 #[v,sl] w (KS w (jz r rs) (cT r rs)):=by
 have HQ:=hid h;have hzl:∀ j,Siz (jz r (rs.take j)) k:=fun j=>by
  rcases Ex r (rs.take j) with e|e
  ·rw[e];exact z
  ·exact zs _ (List.mem_of_mem_take e)
 have hzh:∀ j,Siz (cT r (rs.take j)) k:=fun j=>by
  rcases CP r (rs.take j) with e|e
  ·rw[e];exact z
  ·exact zs _ (List.mem_of_mem_take e)
 have HZL:=hid hzl;have HZH:=hid hzh;have HZS:=hid zs;obtain⟨s0,a0,b0,p0,rfl⟩:=h.form;obtain⟨ao,cap,rfl,hc1,hc2,hr⟩:=hs;have HR:=hid hr;clear h hr hzl hzh zs z
 go_enter Tryz.func58,Tryz.ntmps58
 go_wp2_with fail;have hb1:=cW w (.cells #[.bool s0,u a0,u b0,.pointer p0] 33);have hz1:=ju.new (w.alloc (.cells #[.bool s0,u a0,u b0,.pointer p0] 33)) (.bool false) (.int .u64 0) (.int .u64 0) (.pointer none) (.bool false) (.int .u64 0) (.int .u64 0) (.pointer none);have hs1:(w.alloc (.cells #[.bool s0,u a0,u b0,.pointer p0] 33)).heap.size=w.heap.size+1:=size_alloc ..;rw[hs1] at hz1;have hb2:=cW (w.alloc (.cells #[.bool s0,u a0,u b0,.pointer p0] 33)) (.cells #[.bool false,.int .u64 0,.int .u64 0,.pointer none,.bool false,.int .u64 0,.int .u64 0,.pointer none] 36);have hs2:((w.alloc (.cells #[.bool s0,u a0,u b0,.pointer p0] 33)).alloc (.cells #[.bool false,.int .u64 0,.int .u64 0,.pointer none,.bool false,.int .u64 0,.int .u64 0,.pointer none] 36)).heap.size=w.heap.size+1+1:=by rw[size_alloc,hs1]
 have hb12:=cj hb1 hb2;obtain⟨W1,hW1⟩:∃ W1,(w.alloc (.cells #[.bool s0,u a0,u b0,.pointer p0] 33)).alloc (.cells #[.bool false,.int .u64 0,.int .u64 0,.pointer none,.bool false,.int .u64 0,.int .u64 0,.pointer none] 36)=W1:=⟨_,rfl⟩;rw[hW1] at hz1 hs2 hb12 ⊢;have hb3:=cW W1 (.cells #[.bool s0,u a0,u b0,.pointer p0,.bool s0,u a0,u b0,.pointer p0] 36);have hx:=ju.new W1 (.bool s0) (u a0) (u b0) (.pointer p0) (.bool s0) (u a0) (u b0) (.pointer p0);rw[hs2] at hx;have H0:Hid (ArRel w w.heap.size r rs (.int .i64 0) (W1.alloc (.cells #[.bool s0,u a0,u b0,.pointer p0,.bool s0,u a0,u b0,.pointer p0] 36))):=by
  refine⟨0,s0,a0,b0,p0,s0,a0,b0,p0,rfl,zero_le _,hx,HQ.out,HQ.out,?_,cj hb12 hb3⟩;exact ju.below hz1 hb3 (le_refl _)
 clear hW1 hb1 hb2 hb3 hb12 hz1 hs1 hs2 hx;generalize W1.alloc (.cells #[.bool s0,u a0,u b0,.pointer p0,.bool s0,u a0,u b0,.pointer p0] 36)=W2 at *
 go_loopw [13] (fun i wr=>Hid (ArRel w w.heap.size r rs i wr)) (fun i _=>rs.length-(intOf i).toNat)
 case atStart=>exact H0
 case round =>
  clear H0 HQ;obtain⟨j,s1,a1,b1,p1,s2,a2,b2,p2,rfl,hj,hX,hQ1,hQ2,hZ,hB⟩:=hrel.out;clear hrel;by_cases hlt:j<rs.length
  ·obtain⟨b,off,rfl,hel⟩:=HR.out (by omega);obtain⟨x,hxat,hxq⟩:=hel j hlt;have hsn:rs.take (j+1)=rs.take j++[rs[j]?.getD 0]:=by
    rw[List.take_succ_eq_append_getElem hlt,List.getElem?_eq_getElem hlt];rfl
   have hzx:=HZS.out (rs[j]?.getD 0) (by rw[List.getElem?_eq_getElem hlt];exact List.getElem_mem hlt);have e1:=cez r (rs.take j) (rs[j]?.getD 0);have e2:=cdX r (rs.take j) (rs[j]?.getD 0);rw[← hsn] at e1 e2;have zl:=HZL.out j;have zh:=HZH.out j;generalize rs[j]?.getD 0=t at *;have hxw:=hxat.below hB (le_refl _);obtain⟨sx,ax,bx,px,rfl,k0,k1,k2,k3⟩:=hxw;have HC:=hid (fun s a b p m W (hm:IsQ w (.agg #[.bool s,u a,u b,.pointer p]) m) (zm:Siz m k) (hW:Below w.heap.size w W)=>cmp_q _ _ t m k W (hxq.below hW (le_refl _)) (hm.below hW (le_refl _)) hzx zm hk);have HX:=hid hX;have HZ:=hid hZ;have HB:=hid hB;have HQ1:=hid hQ1;have HQ2:=hid hQ2;have HQx:=hid hxq;have E1:=hid e1;have E2:=hid e2;have Zl:=hid zl;have Zh:=hid zh;clear hX hZ hB hQ1 hQ2 hxat hxq e1 e2 zl zh hzx hsn hel HR HZL HZH HZS;generalize jz r (rs.take j)=lo at *;generalize cT r (rs.take j)=hi at *;obtain⟨c0,c1,c2,c3,c4,c5,c6,c7⟩:=HX.out.cells;have ltz:w.heap.size+1+1<wr.heap.size:=HX.out.lt;go_wp2_with fail;obtain⟨W3,hW,hb,⟨g0,g1,g2,g3⟩⟩:=ZX wr (.bool sx) (u ax) (u bx) (.pointer px);rw[← hW];clear hW;have HX:=hid (HX.out.below hb (le_refl _));have HZ:=hid (ju.below HZ.out hb (le_refl _));have HB:=hid (cj HB.out hb);have m1:¬ wr.heap.size=w.heap.size+1+1:=by omega
   have m2:¬ w.heap.size+1+1=wr.heap.size:=by omega
   have n5:w.heap.size+1≠w.heap.size+1+1:=by omega
   clear c0 c1 c2 c3 c4 c5 c6 c7;clear hb ltz k0 k1 k2 k3;generalize wr.heap.size=bX at *;refine(HC.out s1 a1 b1 p1 lo W3 HQ1.out Zl.out HB.out).mono ?_;rintro e W4 ⟨rfl,hb⟩
   (have hh:=cE (b:=bX) hb g0 g1 g2 g3;clear g0 g1 g2 g3;obtain⟨g0,g1,g2,g3⟩:=hh)
   have HX:=hid (HX.out.below hb (le_refl _));have HZ:=hid (ju.below HZ.out hb (le_refl _));have HB:=hid (cj HB.out hb);clear hb;obtain⟨c0,c1,c2,c3,c4,c5,c6,c7⟩:=HX.out.cells;have zf0:=HX.out.frozen 0;have zf1:=HX.out.frozen 1;have zf2:=HX.out.frozen 2;have zf3:=HX.out.frozen 3;have zf4:=HX.out.frozen 4;have zf5:=HX.out.frozen 5;have zf6:=HX.out.frozen 6;have zf7:=HX.out.frozen 7;by_cases hcl:t<lo
   ·have hcn:jn t lo<0:=by unfold jn;rw[if_pos hcl];decide
    have H1:=hid hcl;clear hcl;generalize jn t lo=c at *;go_wp2_with fail;have hX':=HX.out.setLow (.bool sx) (u ax) (u bx) (.pointer px);have hO':=cdY W4 (w.heap.size+1+1) 0 (.bool sx) (u ax) (u bx) (.pointer px);have hZ':caM _ (w.heap.size+1):=ju.of_block HZ.out (hO'.block (w.heap.size+1) n5);have hB':=HB.out.trans (hO'.below (show w.heap.size<=w.heap.size+1+1 by omega));have i0:=(hO'.cell (p:=⟨bX,0,none⟩) m1).trans g0;have i1:=(hO'.cell (p:=⟨bX,1,none⟩) m1).trans g1;have i2:=(hO'.cell (p:=⟨bX,2,none⟩) m1).trans g2;have i3:=(hO'.cell (p:=⟨bX,3,none⟩) m1).trans g3;clear g0 g1 g2 g3 HX HZ HB hO';clear c0 c1 c2 c3 c4 c5 c6 c7;clear zf0 zf1 zf2 zf3 zf4 zf5 zf6 zf7;obtain⟨W5,hW5⟩:∃ W5,(((W4.setCell ⟨w.heap.size+1+1,0,none⟩ (.bool sx)).setCell ⟨w.heap.size+1+1,1,none⟩ (u ax)).setCell ⟨w.heap.size+1+1,2,none⟩ (u bx)).setCell ⟨w.heap.size+1+1,3,none⟩ (.pointer px)=W5:=⟨_,rfl⟩;simp only[zero_add] at hZ' hB' i0 i1 i2 i3;rw[hW5] at hX' hZ' hB' i0 i1 i2 i3 ⊢;have HX:=hid hX';have HZ:=hid hZ';have HB:=hid hB';have g0:=i0;have g1:=i1;have g2:=i2;have g3:=i3;clear hX' hZ' hB' hW5 i0 i1 i2 i3;refine(HC.out s2 a2 b2 p2 hi W5 HQ2.out Zh.out HB.out).mono ?_;rintro e W6 ⟨rfl,hb⟩
    (have hh:=cE (b:=bX) hb g0 g1 g2 g3;clear g0 g1 g2 g3;obtain⟨g0,g1,g2,g3⟩:=hh)
    have HX:=hid (HX.out.below hb (le_refl _));have HZ:=hid (ju.below HZ.out hb (le_refl _));have HB:=hid (cj HB.out hb);clear hb HC;obtain⟨c0,c1,c2,c3,c4,c5,c6,c7⟩:=HX.out.cells;have zf0:=HX.out.frozen 0;have zf1:=HX.out.frozen 1;have zf2:=HX.out.frozen 2;have zf3:=HX.out.frozen 3;have zf4:=HX.out.frozen 4;have zf5:=HX.out.frozen 5;have zf6:=HX.out.frozen 6;have zf7:=HX.out.frozen 7;by_cases hch:hi<t
    ·have hcn:(0:Int)<jn t hi:=by unfold jn;rw[if_neg (Uh hch),if_pos hch];decide
     have H2:=hid hch;have HX':=hid (HX.out.setHigh (.bool sx) (u ax) (u bx) (.pointer px));have HZ':=hid (ju.of_block HZ.out ((cdY W6 (w.heap.size+1+1) 4 (.bool sx) (u ax) (u bx) (.pointer px)).block (w.heap.size+1) n5));have HB':=hid (HB.out.trans ((cdY W6 (w.heap.size+1+1) 4 (.bool sx) (u ax) (u bx) (.pointer px)).below (by omega)));clear HX HZ HB hch;have HX:=HX';have HZ:=HZ';have HB:=HB';clear HX' HZ' HB';generalize jn t hi=cc at *;go_wp2_with fail
     go_roundw
     case rel=>exact⟨j+1,sx,ax,bx,px,sx,ax,bx,px,by go_num,by omega,HX.out,by rw[E1.out,if_pos H1.out];exact HQx.out,by rw[E2.out,if_pos H2.out];exact HQx.out,HZ.out,HB.out⟩
     case measure=>simp [intOf];omega
    ·have hcn:¬ (0:Int)<jn t hi:=by unfold jn;rw[if_neg hch];split<;>decide
     have H2:=hid hch;clear hch;generalize jn t hi=cc at *;go_wp2_with fail
     go_roundw
     case rel=>exact⟨j+1,sx,ax,bx,px,s2,a2,b2,p2,by go_num,by omega,HX.out,by rw[E1.out,if_pos H1.out];exact HQx.out,by rw[E2.out,if_neg H2.out];exact HQ2.out,HZ.out,HB.out⟩
     case measure=>simp [intOf];omega
   ·have hcn:¬ jn t lo<0:=by unfold jn;rw[if_neg hcl];split<;>decide
    have H1:=hid hcl;clear hcl;generalize jn t lo=c at *;go_wp2_with fail;clear c0 c1 c2 c3 c4 c5 c6 c7;clear zf0 zf1 zf2 zf3 zf4 zf5 zf6 zf7;refine(HC.out s2 a2 b2 p2 hi W4 HQ2.out Zh.out HB.out).mono ?_;rintro e W6 ⟨rfl,hb⟩
    (have hh:=cE (b:=bX) hb g0 g1 g2 g3;clear g0 g1 g2 g3;obtain⟨g0,g1,g2,g3⟩:=hh)
    have HX:=hid (HX.out.below hb (le_refl _));have HZ:=hid (ju.below HZ.out hb (le_refl _));have HB:=hid (cj HB.out hb);clear hb HC;obtain⟨c0,c1,c2,c3,c4,c5,c6,c7⟩:=HX.out.cells;have zf0:=HX.out.frozen 0;have zf1:=HX.out.frozen 1;have zf2:=HX.out.frozen 2;have zf3:=HX.out.frozen 3;have zf4:=HX.out.frozen 4;have zf5:=HX.out.frozen 5;have zf6:=HX.out.frozen 6;have zf7:=HX.out.frozen 7;by_cases hch:hi<t
    ·have hcn:(0:Int)<jn t hi:=by unfold jn;rw[if_neg (Uh hch),if_pos hch];decide
     have H2:=hid hch;have HX':=hid (HX.out.setHigh (.bool sx) (u ax) (u bx) (.pointer px));have HZ':=hid (ju.of_block HZ.out ((cdY W6 (w.heap.size+1+1) 4 (.bool sx) (u ax) (u bx) (.pointer px)).block (w.heap.size+1) n5));have HB':=hid (HB.out.trans ((cdY W6 (w.heap.size+1+1) 4 (.bool sx) (u ax) (u bx) (.pointer px)).below (by omega)));clear HX HZ HB hch;have HX:=HX';have HZ:=HZ';have HB:=HB';clear HX' HZ' HB';generalize jn t hi=cc at *;go_wp2_with fail
     go_roundw
     case rel=>exact⟨j+1,s1,a1,b1,p1,sx,ax,bx,px,by go_num,by omega,HX.out,by rw[E1.out,if_neg H1.out];exact HQ1.out,by rw[E2.out,if_pos H2.out];exact HQx.out,HZ.out,HB.out⟩
     case measure=>simp [intOf];omega
    ·have hcn:¬ (0:Int)<jn t hi:=by unfold jn;rw[if_neg hch];split<;>decide
     have H2:=hid hch;clear hch;generalize jn t hi=cc at *;go_wp2_with fail
     go_roundw
     case rel=>exact⟨j+1,s1,a1,b1,p1,s2,a2,b2,p2,by go_num,by omega,HX.out,by rw[E1.out,if_neg H1.out];exact HQ1.out,by rw[E2.out,if_neg H2.out];exact HQ2.out,HZ.out,HB.out⟩
     case measure=>simp [intOf];omega
  ·obtain rfl:j=rs.length:=by omega
   have hS:IsS w (.agg #[.bool s1,u a1,u b1,.pointer p1,.bool s2,u a2,u b2,.pointer p2]) (jz r rs) (cT r rs):=by
    rw[take_length] at hQ1 hQ2;exact⟨s1,a1,b1,p1,s2,a2,b2,p2,rfl,hQ1,hQ2⟩
   have hfin:=KS.stored (ju.nbox hZ) (hS.below hB (le_refl _)) hB (show w.heap.size<=w.heap.size+1 by omega) (.bool s1) (u a1) (u b1) (.pointer p1) (.bool s2) (u a2) (u b2) (.pointer p2);have HFin:=hid hfin;obtain⟨c0,c1,c2,c3,c4,c5,c6,c7⟩:=hX.cells;obtain⟨z0,z1,z2,z3,z4,z5,z6,z7⟩:=ju.cells hZ;have zf0:=ju.frozen hZ 0;have zf1:=ju.frozen hZ 1;have zf2:=ju.frozen hZ 2;have zf3:=ju.frozen hZ 3;have zf4:=ju.frozen hZ 4;have zf5:=ju.frozen hZ 5;have zf6:=ju.frozen hZ 6;have zf7:=ju.frozen hZ 7;have n6:¬ w.heap.size+1=w.heap.size+1+1:=by omega
   have n7:¬ w.heap.size+1+1=w.heap.size+1:=by omega
   clear hfin hS hQ1 hQ2 hX hZ hB hlt;go_wp2_with fail;refine bodyPost_ret (v:=.agg #[.bool s1,u a1,u b1,.pointer p1,.bool s2,u a2,u b2,.pointer p2]) (by simp [results,Tryz.results58,go_sem,z0,z1,z2,z3,z4,z5,z6,z7]) rfl ?_;exact HFin.out
theorem qsl1 (w:World) (s:Bool) (a b:Nat) (p:Option Addr) (r:Rat) (h:IsQ w (.agg #[.bool s,u a,u b,.pointer p]) r) :
 QSl (w.alloc (.cells #[.bool s,u a,u b,.pointer p] 33)) (.slice (some ⟨w.heap.size,0,none⟩) 1 1) [r]:=by
 have hb:=cW w (.cells #[.bool s,u a,u b,.pointer p] 33);refine⟨_,1,rfl,le_refl _,by decide,fun _=>⟨w.heap.size,0,rfl,fun i hi=>?_⟩⟩;have:i=0:=by simpa using hi
 subst this;refine⟨_,⟨s,a,b,p,rfl,?_,?_,?_,?_⟩,h.below hb (le_refl _)⟩
 all_goals exact World.cell?_alloc_new ..
theorem qsl3 (w:World) (s1 s2 s3:Bool) (a1 b1 a2 b2 a3 b3:Nat) (p1 p2 p3:Option Addr) (r1 r2 r3:Rat) (h1:IsQ w (.agg #[.bool s1,u a1,u b1,.pointer p1]) r1)
 (h2:IsQ w (.agg #[.bool s2,u a2,u b2,.pointer p2]) r2) (h3:IsQ w (.agg #[.bool s3,u a3,u b3,.pointer p3]) r3) :
 QSl (w.alloc (.cells #[.bool s1,u a1,u b1,.pointer p1,.bool s2,u a2,u b2,.pointer p2,.bool s3,u a3,u b3,.pointer p3] 33)) (.slice (some ⟨w.heap.size,0,none⟩) 3 3) [r1,r2,r3]:=by
 have hb:=cW w (.cells #[.bool s1,u a1,u b1,.pointer p1,.bool s2,u a2,u b2,.pointer p2,.bool s3,u a3,u b3,.pointer p3] 33);refine⟨_,3,rfl,le_refl _,by decide,fun _=>⟨w.heap.size,0,rfl,fun i hi=>?_⟩⟩;have hi:i<3:=hi;rcases i with _|_|_|i
 ·refine⟨_,⟨s1,a1,b1,p1,rfl,?_,?_,?_,?_⟩,h1.below hb (le_refl _)⟩
  all_goals exact World.cell?_alloc_new ..
 ·refine⟨_,⟨s2,a2,b2,p2,rfl,?_,?_,?_,?_⟩,h2.below hb (le_refl _)⟩
  all_goals exact World.cell?_alloc_new ..
 ·refine⟨_,⟨s3,a3,b3,p3,rfl,?_,?_,?_,?_⟩,h3.below hb (le_refl _)⟩
  all_goals exact World.cell?_alloc_new ..
 ·omega
theorem box8z (w:World) (c0 c1 c2 c3 c4 c5 c6 c7:Value):∃ W,(w.alloc (.cells #[c0,c1,c2,c3,c4,c5,c6,c7] 36)).alloc (.cells #[.bool false,.int .u64 0,.int .u64 0,.pointer none,.bool false,.int .u64 0,.int .u64 0,.pointer none] 36)=W/\
 Below w.heap.size w W/\ju W w.heap.size c0 c1 c2 c3 c4 c5 c6 c7/\caM W (w.heap.size+1)/\W.heap.size=w.heap.size+1+1:=by
 have hb1:=cW w (.cells #[c0,c1,c2,c3,c4,c5,c6,c7] 36);have h1:=ju.new w c0 c1 c2 c3 c4 c5 c6 c7;have hs1:(w.alloc (.cells #[c0,c1,c2,c3,c4,c5,c6,c7] 36)).heap.size=w.heap.size+1:=size_alloc ..;generalize w.alloc (.cells #[c0,c1,c2,c3,c4,c5,c6,c7] 36)=W1 at *;have hb2:=cW W1 (.cells #[.bool false,.int .u64 0,.int .u64 0,.pointer none,.bool false,.int .u64 0,.int .u64 0,.pointer none] 36);have h2:=ju.new W1 (.bool false) (.int .u64 0) (.int .u64 0) (.pointer none) (.bool false) (.int .u64 0) (.int .u64 0) (.pointer none);rw[hs1] at h2;exact⟨_,rfl,cj hb1 hb2,h1.below hb2 (le_refl _),h2,by rw[size_alloc,hs1]⟩
theorem cdH (v1 v2:Value) (r s:Rat) (k:Nat) (w:World) (h1:IsQ w v1 r) (h2:IsQ w v2 s) (z1:Siz r k) (z2:Siz s k) (hk:(k:Int)<=1073741824) :
 Calls Tryz.prog 21 #[v1,v2] w (KS w (jz r [s]) (cT r [s])):=by
 have HA:=hid (fun sl W (hW:Below w.heap.size w W) (hs:QSl W sl [s])=>YP v1 sl r [s] k W (h1.below hW (le_refl _)) hs z1 (by intro x hx;simp at hx;subst hx;exact z2) hk (by simp));have H2:=hid h2;obtain⟨s1,a1,b1,p1,rfl⟩:=h1.form;obtain⟨s2,a2,b2,p2,rfl⟩:=h2.form;clear h1 h2 z1 z2 hk
 go_enter Tryz.func21,Tryz.ntmps21
 go_wp2_with fail;obtain⟨W1,hW1,hb1,_,_⟩:=box2 w (.bool s1) (u a1) (u b1) (.pointer p1) (.bool s2) (u a2) (u b2) (.pointer p2);have hs1:W1.heap.size=w.heap.size+1+1:=by rw[hW1,size_alloc,size_alloc]
 rw[← hW1];have hb2:=cW W1 (.cells #[.bool false,.int .u64 0,.int .u64 0,.pointer none,.bool false,.int .u64 0,.int .u64 0,.pointer none] 36);have hz:=ju.new W1 (.bool false) (.int .u64 0) (.int .u64 0) (.pointer none) (.bool false) (.int .u64 0) (.int .u64 0) (.pointer none);have hs2:(W1.alloc (.cells #[.bool false,.int .u64 0,.int .u64 0,.pointer none,.bool false,.int .u64 0,.int .u64 0,.pointer none] 36)).heap.size=w.heap.size+1+1+1:=by rw[size_alloc,hs1]
 rw[hs1] at hz;have hb0:=cj hb1 hb2;clear hb1 hb2 hW1;generalize W1.alloc (.cells #[.bool false,.int .u64 0,.int .u64 0,.pointer none,.bool false,.int .u64 0,.int .u64 0,.pointer none] 36)=W0 at *;have hb1:=cW W0 (.cells #[.bool s2,u a2,u b2,.pointer p2] 33);have hq:=qsl1 W0 s2 a2 b2 p2 s (H2.out.below hb0 (le_refl _));rw[hs2] at hq;refine(HA.out _ _ (cj hb0 hb1) hq).mono ?_;rintro e W9 ⟨v,rfl,hv,hb⟩;have hb9:=cj (cj hb0 hb1) hb;have hz9:caM W9 (w.heap.size+1+1):=ju.below (ju.below hz hb1 (le_refl _)) hb (le_refl _);have HB9:=hid hb9;clear hb0 hb1 hq hz hs2 hs1 hb9 HA
 (have hv':=hv;obtain⟨t1,d1,e1,q1,t2,d2,e2,q2,rfl,_,_⟩:=hv';have HFin:=hid (KS.stored (ju.nbox hz9) hv HB9.out (by omega) (.bool t1) (u d1) (u e1) (.pointer q1) (.bool t2) (u d2) (u e2) (.pointer q2));(obtain⟨z0,z1,z2,z3,z4,z5,z6,z7⟩:=ju.cells hz9;have zf0:=ju.frozen hz9 0;have zf1:=ju.frozen hz9 1;have zf2:=ju.frozen hz9 2;have zf3:=ju.frozen hz9 3;have zf4:=ju.frozen hz9 4;have zf5:=ju.frozen hz9 5;have zf6:=ju.frozen hz9 6;have zf7:=ju.frozen hz9 7);clear hv hz9;clear hb;go_wp2_with fail;refine bodyPost_ret (v:=.agg #[.bool t1,u d1,u e1,.pointer q1,.bool t2,u d2,u e2,.pointer q2]) (by simp [results,Tryz.results21,go_sem,z0,z1,z2,z3,z4,z5,z6,z7]) rfl ?_;exact HFin.out)
theorem box88z (w:World) (c0 c1 c2 c3 c4 c5 c6 c7 d0 d1 d2 d3 d4 d5 d6 d7:Value):∃ W,((w.alloc (.cells #[c0,c1,c2,c3,c4,c5,c6,c7] 36)).alloc (.cells #[d0,d1,d2,d3,d4,d5,d6,d7] 36)).alloc (.cells #[.bool false,.int .u64 0,.int .u64 0,.pointer none,.bool false,.int .u64 0,.int .u64 0,.pointer none] 36)=W/\
 Below w.heap.size w W/\ju W w.heap.size c0 c1 c2 c3 c4 c5 c6 c7/\ju W (w.heap.size+1) d0 d1 d2 d3 d4 d5 d6 d7/\caM W (w.heap.size+1+1)/\W.heap.size=w.heap.size+1+1+1:=by
 have hb1:=cW w (.cells #[c0,c1,c2,c3,c4,c5,c6,c7] 36);have h1:=ju.new w c0 c1 c2 c3 c4 c5 c6 c7;have hs1:(w.alloc (.cells #[c0,c1,c2,c3,c4,c5,c6,c7] 36)).heap.size=w.heap.size+1:=size_alloc ..;generalize w.alloc (.cells #[c0,c1,c2,c3,c4,c5,c6,c7] 36)=W1 at *;obtain⟨W2,hW2,hb2,h2,h3,hs2⟩:=box8z W1 d0 d1 d2 d3 d4 d5 d6 d7;rw[hs1] at h2 h3 hs2;exact⟨W2,hW2,cj hb1 hb2,h1.below hb2 (le_refl _),h2,h3,hs2⟩
theorem ckJ (v1 v2:Value) (lo hi lo2 hi2:Rat) (k:Nat) (w:World) (h1:IsS w v1 lo hi) (h2:IsS w v2 lo2 hi2) (z1:Siz lo k) (z2:Siz hi k) (z3:Siz lo2 k) (z4:Siz hi2 k) (hk:(k:Int)<=1073741824) :
 Calls Tryz.prog 32 #[v1,v2] w (KS w (jz lo [hi,lo2,hi2]) (cT lo [hi,lo2,hi2])):=by
 obtain⟨s1,a1,b1,p1,s2,a2,b2,p2,rfl,h1,h2'⟩:=h1;obtain⟨s3,a3,b3,p3,s4,a4,b4,p4,rfl,h3,h4⟩:=h2;have HA:=hid (fun sl W (hW:Below w.heap.size w W) (hs:QSl W sl [hi,lo2,hi2])=>YP _ sl lo [hi,lo2,hi2] k W (h1.below hW (le_refl _)) hs z1 (by intro x hx;simp at hx;rcases hx with rfl|rfl|rfl<;>assumption) hk (by simp));have HQ:=hid (And.intro h2' (And.intro h3 h4));clear h1 h2' h3 h4 z1 z2 z3 z4 hk
 go_enter Tryz.func32,Tryz.ntmps32
 go_wp2_with fail;obtain⟨W0,hW0,hb0,_,_,hz,hs⟩:=box88z w (.bool s1) (u a1) (u b1) (.pointer p1) (.bool s2) (u a2) (u b2) (.pointer p2) (.bool s3) (u a3) (u b3) (.pointer p3) (.bool s4) (u a4) (u b4) (.pointer p4);rw[hW0];have hb1:=cW W0 (.cells #[.bool s2,u a2,u b2,.pointer p2,.bool s3,u a3,u b3,.pointer p3,.bool s4,u a4,u b4,.pointer p4] 33);have hq:=qsl3 W0 s2 s3 s4 a2 b2 a3 b3 a4 b4 p2 p3 p4 hi lo2 hi2 (HQ.out.1.below hb0 (le_refl _)) (HQ.out.2.1.below hb0 (le_refl _)) (HQ.out.2.2.below hb0 (le_refl _));rw[hs] at hq;refine(HA.out _ _ (cj hb0 hb1) hq).mono ?_;rintro e W9 ⟨v,rfl,hv,hb⟩;have hb9:=cj (cj hb0 hb1) hb;have hz9:caM W9 (w.heap.size+1+1):=ju.below (ju.below hz hb1 (le_refl _)) hb (le_refl _);have HB9:=hid hb9;clear hb0 hb1 hq hz hs hW0 hb9 HA
 (have hv':=hv;obtain⟨t1,d1,e1,q1,t2,d2,e2,q2,rfl,_,_⟩:=hv';have HFin:=hid (KS.stored (ju.nbox hz9) hv HB9.out (by omega) (.bool t1) (u d1) (u e1) (.pointer q1) (.bool t2) (u d2) (u e2) (.pointer q2));(obtain⟨z0,z1,z2,z3,z4,z5,z6,z7⟩:=ju.cells hz9;have zf0:=ju.frozen hz9 0;have zf1:=ju.frozen hz9 1;have zf2:=ju.frozen hz9 2;have zf3:=ju.frozen hz9 3;have zf4:=ju.frozen hz9 4;have zf5:=ju.frozen hz9 5;have zf6:=ju.frozen hz9 6;have zf7:=ju.frozen hz9 7);clear hv hz9;clear hb;go_wp2_with fail;refine bodyPost_ret (v:=.agg #[.bool t1,u d1,u e1,.pointer q1,.bool t2,u d2,u e2,.pointer q2]) (by simp [results,Tryz.results32,go_sem,z0,z1,z2,z3,z4,z5,z6,z7]) rfl ?_;exact HFin.out)
end Go.Proofs.YtokieocpdcngcabGreatDoor
