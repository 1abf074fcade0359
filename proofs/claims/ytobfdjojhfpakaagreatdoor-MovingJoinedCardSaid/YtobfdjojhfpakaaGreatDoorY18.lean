/- Part 18. -/
import Derived.Test.YtobfdjojhfpakaaGreatDoorY17
set_option linter.all false
open Bool (and_eq_true)
open Go.Lib (hid)
open List (append_nil drop_drop length_append length_cons mem_cons_of_mem take_length)
open Nat (div_le_self eq_zero_or_pos le_refl le_trans lt_of_le_of_lt lt_of_lt_of_le mul_le_mul_left pow_le_pow_right pow_succ zero_add zero_le)
open Go.World (size_alloc)

namespace Go.Proofs.YtobfdjojhfpakaaGreatDoor.Lim
theorem ZS (n:Int) (g:Nat):(n/(g:Int)).natAbs<=n.natAbs:=by
 rcases eq_zero_or_pos g with h|h
 ·subst h;simp
 ·rcases (Decidable.em (n<0)) with hn|hn
  ·have h1:=Int.mul_ediv_add_emod n g;have h2:=Int.emod_nonneg n (b:=(g:Int)) (by omega);have h3:=Int.emod_lt_of_pos n (b:=(g:Int)) (by omega);have h4:n<=n/(g:Int):=by
    have:n*(g:Int)<=n*1:=Int.mul_le_mul_of_nonpos_left (by omega) (by omega);rw[Int.mul_one] at this;exact(Int.le_ediv_iff_mul_le (by omega)).2 this
   have h5:n/(g:Int)<0:=Int.ediv_neg_of_neg_of_pos hn (by omega);omega
  ·have h1:0<=n/(g:Int):=Int.ediv_nonneg (by omega) (by omega);have h2:n/(g:Int)<=n:=Int.ediv_le_self _ (by omega);omega
theorem Zf (n:Int) (d:Nat) (hd:d≠0):(mkRat n d).num.natAbs<=n.natAbs/\(mkRat n d).den<=d:=by
 rw[Rat.num_mkRat,Rat.den_mkRat,if_neg hd,if_neg hd];exact⟨ZS _ _,div_le_self _ _⟩
theorem ckc (r s:Rat):(r*s).num.natAbs<=r.num.natAbs*s.num.natAbs/\(r*s).den<=r.den*s.den:=by
 rw[Rat.mul_def'];have:=Zf (r.num*s.num) (r.den*s.den) (Nat.mul_ne_zero r.den_nz s.den_nz)
 rwa [Int.natAbs_mul] at this
theorem ckx (r s:Rat):(r+s).num.natAbs<=r.num.natAbs*s.den+s.num.natAbs*r.den/\(r+s).den<=r.den*s.den:=by
 rw[Rat.add_def'];have:=Zf (r.num*s.den+s.num*r.den) (r.den*s.den) (Nat.mul_ne_zero r.den_nz s.den_nz);refine⟨le_trans this.1 ?_,this.2⟩;refine le_trans (Int.natAbs_add_le _ _) ?_;rw[Int.natAbs_mul,Int.natAbs_mul];simp
theorem zM (neg:Bool) (n:Nat):(if neg then -(n:Rat) else (n:Rat)).num=(if neg then -(n:Int) else (n:Int))/\(if neg then -(n:Rat) else (n:Rat)).den=1:=by
 cases neg
 ·exact⟨rfl,rfl⟩
 ·exact⟨rfl,rfl⟩
end Go.Proofs.YtobfdjojhfpakaaGreatDoor.Lim

namespace Go.Proofs.YtobfdjojhfpakaaGreatDoor
open Go Go.RowKit Go.Proofs Lim
theorem Siz.mul {r s:Rat}{k j:Nat}(h1:Siz r k) (h2:Siz s j):Siz (r*s) (k+j):=by
 obtain⟨a,b⟩:=ckc r s;exact⟨lt_of_le_of_lt a (yB h1.1 h2.1),lt_of_le_of_lt b (yB h1.2 h2.2)⟩
theorem Siz.add {r s:Rat}{k j:Nat}(h1:Siz r k) (h2:Siz s j):Siz (r+s) (k+j+1):=by
 obtain⟨a,b⟩:=ckx r s;have e1:=yB h1.1 h2.2;have e2:=yB h2.1 h1.2;rw[Nat.add_comm j k] at e2;have e3:=yB h1.2 h2.2;have h:B^(k+j)*2<=B^(k+j+1):=by rw[pow_succ];exact mul_le_mul_left _ Yz
 refine⟨?_,?_⟩
 ·refine lt_of_le_of_lt a ?_;omega
 ·refine lt_of_le_of_lt b ?_;omega
theorem Siz.sub {r s:Rat}{k j:Nat}(h1:Siz r k) (h2:Siz s j):Siz (r-s) (k+j+1):=by
 rw[Rat.sub_eq_add_neg];exact h1.add h2.neg
theorem Siz.zero (k:Nat) (h:1<=k):Siz 0 k:=by
 have:1<B^k:=lt_of_lt_of_le (show 1<B^1 by decide) (pow_le_pow_right jz h);exact⟨by simp;omega,by simp;omega⟩
theorem Siz.div {r s:Rat}{k j:Nat}(h1:Siz r k) (h2:Siz s j) (h0:s.num≠0):Siz (r/s) (k+j):=by
 rw[Rat.div_def];exact h1.mul (h2.inv h0)
theorem ES {L k:Nat}(h:L<=19*k):10^L<=B^k:=by
 refine le_trans (pow_le_pow_right (by omega) h) ?_;rw[Nat.pow_mul];exact Nat.pow_le_pow_left (by decide) k
theorem Siz.read (s:List UInt8) {L k:Nat}(h:s.length<=L) (h1:1<=L) (hk:L<=19*k):Siz (cT s).1 k:=by
 obtain⟨a,b⟩:=ceM s h h1;exact⟨lt_of_lt_of_le a (ES hk),lt_of_lt_of_le b (ES hk)⟩
theorem cen (s:List UInt8):Lib.index s [47]=if (s.dropWhile (· != 47)).isEmpty then -1 else ((s.takeWhile (· != 47)).length:Int):=by
 induction s with
 |nil=>rfl
 |cons c s ih =>
  rw[Lib.index];by_cases hc:c=47
  ·subst hc;simp
  ·have h1:(c != 47)=true:=by simpa using hc
   have h2:([47]:List UInt8).isPrefixOf (c::s)=false:=by
    simp [List.isPrefixOf];exact fun e=>hc e.symm
   rw[h2,List.dropWhile_cons,List.takeWhile_cons,h1,ih];simp only[if_true,length_cons];by_cases he:(s.dropWhile (· != 47)).isEmpty=true
   ·simp [he]
   ·simp only[he];have:(((s.takeWhile (· != 47)).length:Int) == -1)=false:=by rw[beq_eq_false_iff_ne];omega
    simp [this]
theorem ciA (s:List UInt8):Lib.cut s [47]=(s.takeWhile (· != 47),(s.dropWhile (· != 47)).tail,!(s.dropWhile (· != 47)).isEmpty):=by
 unfold Lib.cut;rw[cen];have hs:=(List.takeWhile_append_dropWhile (p:=(· != (47:UInt8))) (l:=s)).symm;by_cases he:(s.dropWhile (· != 47)).isEmpty=true
 ·have h0:s.dropWhile (· != 47)=[]:=by simpa using he
  rw[if_pos he,if_neg (by decide),h0];rw[h0,append_nil] at hs;rw[← hs];rfl
 ·rw[if_neg he,if_pos (by omega)];generalize s.dropWhile (· != 47)=d at *;generalize s.takeWhile (· != 47)=t at *;subst hs;have h1:(!d.isEmpty)=true:=by simpa using he
  rw[h1,Int.toNat_natCast];refine Prod.ext ?_ (Prod.ext ?_ rfl)
  ·simp
  ·simp only[List.length_singleton];rw[← drop_drop,List.drop_left,List.drop_one]
theorem cbP (s:List UInt8):Lib.hasPrefix s [45]=jO s/\Lib.trimPrefix s [45]=kj s:=by
 have h1:Lib.hasPrefix s [45]=jO s:=by
  unfold Lib.hasPrefix jO;cases s with
  |nil=>rfl
  |cons c s=>simp [List.isPrefixOf];rw[Bool.eq_iff_iff];simp;exact eq_comm
 refine⟨h1,?_⟩;unfold Lib.trimPrefix kj;rw[h1];cases s with
 |nil=>simp
 |cons c s=>simp
theorem WO (l:List UInt8) (w:World) :
 Calls Tryz.prog 96 #[str l,.string ⟨#[45]⟩] w (fun e w'=>e=.returned (.tuple #[str (kj l),.bool (jO l)])/\w=w'):=by
 refine(Tryz.strings_CutPrefix ⟨l.toArray⟩ ⟨#[45]⟩ w).mono ?_;rintro e w' ⟨rfl,rfl⟩;refine⟨?_,rfl⟩;have:=cbP l;show Ending.returned (.tuple #[.string ⟨(Lib.trimPrefix l [45]).toArray⟩,.bool (Lib.hasPrefix l [45])])=_;rw[this.1,this.2]
theorem cjw (l:List UInt8) (hl:l.length<=100000) (w:World) (hG:Gr w) :
 Calls Tryz.prog 97 #[str l,.string ⟨#[47]⟩] w (fun e w'=>e=.returned (.tuple #[str (l.takeWhile (· != 47)),str (l.dropWhile (· != 47)).tail,.bool (!(l.dropWhile (· != 47)).isEmpty)])/\∃ n,w'=w.drewN n):=by
 obtain⟨m,hm⟩:=hG.maxLen;refine(Tryz.strings_Cut ⟨l.toArray⟩ ⟨#[47]⟩ m w (by have:=Je l hl (show 100000<=4294967280 by omega);omega) hm).mono ?_;rintro e w' ⟨rfl,hw⟩;refine⟨?_,hw⟩;have:=ciA l;show Ending.returned (.tuple #[.string ⟨(Lib.cut l [47]).1.toArray⟩,.string ⟨(Lib.cut l [47]).2.1.toArray⟩,.bool (Lib.cut l [47]).2.2])=_;rw[this]
def kN (w:World) (l:List UInt8) (e:Ending) (w':World):Prop :=
 ∃ v,e=.returned (.tuple #[v,.int .i64 (cT l).2])/\IsQ w' v (cT l).1/\Below w.heap.size w w'
theorem kN.err {w w':World}{l:List UInt8}{k:Int}(hk:cT l=(0,k)) (hb:Below w.heap.size w w'):kN w l (.returned (.tuple #[lo false 0 0,.int .i64 k])) w':=by
 refine⟨lo false 0 0,by rw[hk],?_,hb⟩;rw[hk];exact Num.low 0 rfl rfl jz (show 1<B by decide)
theorem kq {l:List UInt8}(hl:¬ 4000<l.length) (h:kn l=none):cT l=(0,4):=by unfold cT;rw[if_neg hl,h]
theorem Gc {l:List UInt8}{r:Rat}(hl:¬ 4000<l.length) (h:kn l=some r):cT l=if kf r=l then (r,0) else (0,4):=by unfold cT;rw[if_neg hl,h]
theorem CK (l:List UInt8):(kj l).length<=l.length:=by unfold kj;split<;>simp
theorem GV (l:List UInt8):(kd l).length<=l.length:=by
 have h:=congrArg List.length (List.takeWhile_append_dropWhile (p:=(· != (47:UInt8))) (l:=kj l));rw[length_append] at h;have:=CK l;unfold kd;omega
theorem Ji (l:List UInt8):(jg l).length<=l.length+1:=by
 unfold jg;have h1:=CK l;have h:=congrArg List.length (List.takeWhile_append_dropWhile (p:=(· != (47:UInt8))) (l:=kj l));rw[length_append] at h;split
 ·simp
 ·rw[List.length_tail];omega
theorem cid {l:List UInt8}(h:kB l=true):∀ c∈l,jR c=true:=by
 unfold kB at h;rw[and_eq_true,List.all_eq_true] at h;exact h.2
theorem Uj {l:List UInt8}{k:Nat}(h:kB l=true) (hl:l.length<=19*k):cX l<B^k :=
 lt_of_lt_of_le (JS l (cid h)) (ES hl)
theorem Ky {k:Nat}(hk:1<=k):1<B^k:=lt_of_lt_of_le (show 1<B^1 by decide) (pow_le_pow_right jz hk)
theorem ZJ {n k:Nat}(neg:Bool) (h:n<B^k) (hk:1<=k):Siz (yz neg n) k:=by
 have h4:=zM neg n;have h1:=Ky hk;unfold Siz yz;rw[h4.1,h4.2];refine⟨?_,h1⟩;cases neg
 ·simpa using h
 ·simpa using h
theorem cgk {n k:Nat}(h:n<B^k) (hk:1<=k):Siz ((n:Nat):Rat) k:=by
 refine⟨?_,Ky hk⟩;show ((n:Nat):Int).natAbs<B^k;simpa using h
theorem cjV (l:List UInt8) (w:World) (hl:l.length<=100000) (hG:Gr w):Calls Tryz.prog 42 #[str l] w (kN w l):=by
 by_cases h4:4000<l.length
 ·have hr:cT l=(0,5):=by unfold cT;rw[if_pos h4]
  have HR:=hid hr;have hi:(4000:Int)<(l.length:Int):=by omega
  clear hr h4 hG
  go_enter Tryz.func42,Tryz.ntmps42
  go_wp2_with fail;refine bodyPost_ret (v:=.tuple #[lo false 0 0,.int .i64 5]) (by simp [results,Tryz.results42,go_sem]) rfl ?_;exact kN.err HR.out (cW w _)
 ·have hi:¬ (4000:Int)<(l.length:Int):=by omega
  have HG:=hid hG;have H4:=hid h4;have HNA:=hid (fun W (hW:Below w.heap.size w W)=>Gl (kd l) W (by have:=GV l;omega) (hG.below hW hG.size));have HNB:=hid (fun W (hW:Below w.heap.size w W)=>Gl (jg l) W (by have:=Ji l;omega) (hG.below hW hG.size));have HCut:=hid (fun W (hW:Below w.heap.size w W)=>cjw (kj l) (by have:=CK l;omega) W (hG.below hW hG.size));clear hG h4
  go_enter Tryz.func42,Tryz.ntmps42
  go_wp2_with fail;refine(WO l _).mono ?_;rintro e w1 ⟨rfl,rfl⟩;go_wp2_with fail;obtain⟨W0,hW0,hb0,hz,hs⟩:=boxz w;rw[← hW0];clear hW0;have HZ:=hid hz;have HW0:=hid hb0;have hb0:=Below.refl W0.heap.size W0;clear hz;clear hs;refine(HCut.out _ HW0.out).mono ?_;rintro e W2 ⟨rfl,q,rfl⟩;have HA2:Hid (Below W0.heap.size W0 (W0.drewN q)):=kS hb0;clear hb0;generalize W0.drewN q=W2 at *;by_cases hs:((kj l).dropWhile (· != 47)).isEmpty=true
  ·have hbe:jg l=[49]:=by unfold jg;rw[if_pos hs]
   have HNB:=hid (fun W hW=>show Calls Tryz.prog 98 #[.string ⟨#[49]⟩] W (WA W (jg l)) from(by
    have:=HNB.out W hW;rw[show str (jg l)=.string ⟨#[49]⟩ from by rw[hbe]] at this;exact this))
   rw[hs];show _;rw[show (kj l).takeWhile (· != 47)=kd l from rfl];clear hs hbe;go_wp2_with fail;refine(HNA.out _ (cj HW0.out HA2.out)).mono ?_;rintro e W3 (⟨hok1,va,rfl,hva,hb⟩|⟨hok1,rfl,hb⟩)
   ·have HVA:=hid hva;have HO1:=hid hok1;have HA3:=hid (cj HA2.out hb);obtain⟨aa,al,ac,rfl,_⟩:=hva.form;clear hva hok1 hb HNA HA2;go_wp2_with fail;refine(HNB.out _ (cj HW0.out HA3.out)).mono ?_;rintro e W4 (⟨hok2,vb,rfl,hvb,hb⟩|⟨hok2,rfl,hb⟩)
    ·obtain⟨ba,bl,bc,rfl,_,hbz,_⟩:=hvb.form;have HVB:=hid hvb;have HVA:=hid (HVA.out.below hb (le_refl _));have HO2:=hid hok2;have HA4:=hid (cj HA3.out hb);by_cases hd0:cX (jg l)=0
     ·have hbl:bl=0:=hbz.2 hd0;have HD0:=hid hd0;subst hbl;clear hvb hok2 hb HNB HA3 hbz hd0;have hfin:=kN.err (kq H4.out (by unfold kn;rw[HO1.out,HO2.out,HD0.out];rfl)) (kD HW0.out HA4.out (le_refl _) (.bool false) (.int .u64 0) (.int .u64 0) (.pointer none));have HFin:=hid hfin
      (have hz:=HZ.out.below HA4.out (le_refl _);have zf:=hz.frozen;obtain⟨z0,z1,z2,z3⟩:=hz.cells;have zf0:=zf 0;have zf1:=zf 1;have zf2:=zf 2;have zf3:=zf 3;clear zf hz)
      clear hfin;go_wp2_with fail;refine bodyPost_ret (v:=.tuple #[lo false 0 0,.int .i64 4]) (by simp [results,Tryz.results42,go_sem,z0,z1,z2,z3]) rfl ?_;exact HFin.out
     ·have hbl:(((bl:Nat):Int) == 0)=false:=by rw[beq_eq_false_iff_ne];intro e;exact hd0 (hbz.1 (by omega))
      have hpar:kn l=some (yz (jO l) (cX (kd l))*((cX (jg l):Nat):Rat)⁻¹):=by
       unfold kn;rw[HO1.out,HO2.out,Bool.true_and,Bool.true_and,if_pos (by simpa using hd0)]
      have HPar:=hid (Gc H4.out hpar);have HWn:=hid (fun v W (hv:cn W v (cX (kd l)))=>(JJ (jO l) v _ W hv).mono fun e W' h=>h.q (r:=yz (jO l) (cX (kd l))) (zM _ _).1 (zM _ _).2);have HWd:=hid (fun v W (hv:cn W v (cX (jg l)))=>(JJ false v _ W hv).mono fun e W' h=>h.q (r:=((cX (jg l):Nat):Rat)) rfl rfl);have hdn:(((cX (jg l):Nat):Rat)).num≠0:=by
       show ((cX (jg l):Nat):Int)≠0;omega
      have HRc:=hid (fun v W (hv:IsQ W v ((cX (jg l):Nat):Rat))=>cbX v _ W hv hdn);obtain⟨K,hK1,hK2,hK3⟩:∃ K:Nat,4001<=19*K/\(K:Int)<=1073741824/\((K+K:Nat):Int)<=1073741824:=⟨300,by omega,by omega,by omega⟩;have hz1:=ZJ (k:=K) (jO l) (Uj HO1.out (by have:=GV l;omega)) (by omega);have hz2:=cgk (k:=K) (Uj HO2.out (by have:=Ji l;omega)) (by omega);have hz3:=hz2.inv hdn;have HTm:=hid (fun v1 v2 W h1 h2 hG=>GJ v1 v2 (yz (jO l) (cX (kd l))) ((cX (jg l):Nat):Rat)⁻¹ K W h1 h2 hz1 hz3 hK2 hG);have HTx:=hid (fun v W h=>cct v (yz (jO l) (cX (kd l))*((cX (jg l):Nat):Rat)⁻¹) (K+K) W h (hz1.mul hz3) hK3);clear hz1 hz2 hz3 hK1 hK2 hK3 hdn hpar hvb hok2 hb HNB HA3 hbz hd0;generalize yz (jO l) (cX (kd l))=qn at *;generalize hdv:((cX (jg l):Nat):Rat)=qd at *;go_wp2_with fail;refine(HWn.out _ _ HVA.out).mono ?_;rintro e W5 ⟨v1,rfl,hv1,hb⟩;have HV1:=hid hv1;have HVB:=hid (HVB.out.below hb (le_refl _));have HA5:=hid (cj HA4.out hb);obtain⟨_,_,_,_,rfl⟩:=hv1.form;clear hv1 hb HWn HA4 HVA hdv;go_wp2_with fail;refine(HWd.out _ _ HVB.out).mono ?_;rintro e W6 ⟨v2,rfl,hv2,hb⟩;have HV1:=hid (HV1.out.below hb (le_refl _));have HV2:=hid hv2;have HA6:=hid (cj HA5.out hb);obtain⟨_,_,_,_,rfl⟩:=hv2.form;clear hv2 hb HWd HA5 HVB;go_wp2_with fail;refine(HRc.out _ _ HV2.out).mono ?_;rintro e W7 ⟨v3,rfl,hv3,hb⟩;have HV1:=hid (HV1.out.below hb (le_refl _));have HV3:=hid hv3;have HA7:=hid (cj HA6.out hb);obtain⟨_,_,_,_,rfl⟩:=hv3.form;clear hv3 hb HRc HA6 HV2;go_wp2_with fail;refine(HTm.out _ _ _ HV1.out HV3.out (HG.out.below (cj HW0.out HA7.out) HG.out.size)).mono ?_;rintro e W8 ⟨v4,rfl,hv4,hb⟩;have HV4:=hid hv4
      have HA8:=hid (cj HA7.out hb);obtain⟨sx,ax,bx,px,rfl⟩:=hv4.form;clear hv4 hb HTm HA7 HV1 HV3;have hlt:w.heap.size<W8.heap.size:=World.block_lt_of_cell? W8 ⟨w.heap.size,0,none⟩ (HZ.out.below HA8.out (le_refl _)).cells.1;go_wp2_with fail;obtain⟨W9,hW,hb,⟨g0,g1,g2,g3⟩⟩:=YX W8 (.bool sx) (u ax) (u bx) (.pointer px);rw[← hW];clear hW;have HV4:=hid (HV4.out.below hb (le_refl _));have HA9:=hid (cj HA8.out hb);have m1:¬ w.heap.size=W8.heap.size:=by omega
      have m2:¬ W8.heap.size=w.heap.size:=by omega
      clear hb HA8 hlt;generalize W8.heap.size=bx1 at *;refine(HTx.out _ _ HV4.out).mono ?_;rintro e W10 ⟨rfl,hb⟩
      (have hh:=cD (b:=bx1) hb g0 g1 g2 g3;clear g0 g1 g2 g3;obtain⟨g0,g1,g2,g3⟩:=hh)
      have HV4:=hid (HV4.out.below hb (le_refl _));have HAx:=hid (cj HA9.out hb);clear hb HA9 HTx;by_cases hq:kf (qn*qd⁻¹)=l
      ·rw[hq];have hp:=HPar.out;rw[if_pos hq] at hp;have hz:=HZ.out.below HAx.out (le_refl _);have hfin:=uQ.stored (a0:=.bool sx) (a1:=u ax) (a2:=u bx) (a3:=.pointer px) hz HV4.out (cj HW0.out HAx.out) (le_refl _);have HFin:=hid hfin;have HPv:=hid hp
       (have hz:=HZ.out.below HAx.out (le_refl _);have zf:=hz.frozen;obtain⟨z0,z1,z2,z3⟩:=hz.cells;have zf0:=zf 0;have zf1:=zf 1;have zf2:=zf 2;have zf3:=zf 3;clear zf hz)
       clear hfin hz hq hp HPar;go_wp2_with fail;refine bodyPost_ret (v:=.tuple #[.agg #[.bool sx,u ax,u bx,.pointer px],.int .i64 0]) (by simp [results,Tryz.results42,go_sem,z0,z1,z2,z3]) rfl ?_;obtain⟨v,hv,hqq,hbb⟩:=HFin.out;injection hv with hv
       subst hv;refine⟨_,by rw[HPv.out],?_,hbb⟩;rw[HPv.out];exact hqq
      ·have hp:=HPar.out;rw[if_neg hq] at hp;have hfin:=kN.err hp (kD HW0.out HAx.out (le_refl _) (.bool false) (.int .u64 0) (.int .u64 0) (.pointer none));have HFin:=hid hfin
       (have hz:=HZ.out.below HAx.out (le_refl _);have zf:=hz.frozen;obtain⟨z0,z1,z2,z3⟩:=hz.cells;have zf0:=zf 0;have zf1:=zf 1;have zf2:=zf 2;have zf3:=zf 3;clear zf hz)
       clear hfin hp HPar HV4;generalize kf (qn*qd⁻¹)=tq at *;have hqb:(tq == l)=false:=by simpa using hq
       clear hq;go_wp2_with fail;refine bodyPost_ret (v:=.tuple #[lo false 0 0,.int .i64 4]) (by simp [results,Tryz.results42,go_sem,z0,z1,z2,z3]) rfl ?_;exact HFin.out
    ·have HO2:=hid hok2;have HA4:=hid (cj HA3.out hb);clear hok2 hb HNB HA3 HVA;have hfin:=kN.err (kq H4.out (by unfold kn;rw[HO2.out,Bool.and_false,Bool.false_and];rfl)) (kD HW0.out HA4.out (le_refl _) (.bool false) (.int .u64 0) (.int .u64 0) (.pointer none));have HFin:=hid hfin
     (have hz:=HZ.out.below HA4.out (le_refl _);have zf:=hz.frozen;obtain⟨z0,z1,z2,z3⟩:=hz.cells;have zf0:=zf 0;have zf1:=zf 1;have zf2:=zf 2;have zf3:=zf 3;clear zf hz)
     clear hfin;go_wp2_with fail;refine bodyPost_ret (v:=.tuple #[lo false 0 0,.int .i64 4]) (by simp [results,Tryz.results42,go_sem,z0,z1,z2,z3]) rfl ?_;exact HFin.out
   ·have HO1:=hid hok1;have HA3:=hid (cj HA2.out hb);clear hok1 hb HNA HA2;go_wp2_with fail;refine(HNB.out _ (cj HW0.out HA3.out)).mono ?_;rintro e W4 (⟨hok2,vb,rfl,hvb,hb⟩|⟨hok2,rfl,hb⟩)
    ·obtain⟨ba,bl,bc,rfl,_⟩:=hvb.form;have HA4:=hid (cj HA3.out hb);clear hvb hok2 hb HNB HA3;have hfin:=kN.err (kq H4.out (by unfold kn;rw[HO1.out,Bool.false_and,Bool.false_and];rfl)) (kD HW0.out HA4.out (le_refl _) (.bool false) (.int .u64 0) (.int .u64 0) (.pointer none));have HFin:=hid hfin
     (have hz:=HZ.out.below HA4.out (le_refl _);have zf:=hz.frozen;obtain⟨z0,z1,z2,z3⟩:=hz.cells;have zf0:=zf 0;have zf1:=zf 1;have zf2:=zf 2;have zf3:=zf 3;clear zf hz)
     clear hfin;go_wp2_with fail;refine bodyPost_ret (v:=.tuple #[lo false 0 0,.int .i64 4]) (by simp [results,Tryz.results42,go_sem,z0,z1,z2,z3]) rfl ?_;exact HFin.out
    ·have HA4:=hid (cj HA3.out hb);clear hok2 hb HNB HA3;have hfin:=kN.err (kq H4.out (by unfold kn;rw[HO1.out,Bool.false_and,Bool.false_and];rfl)) (kD HW0.out HA4.out (le_refl _) (.bool false) (.int .u64 0) (.int .u64 0) (.pointer none));have HFin:=hid hfin
     (have hz:=HZ.out.below HA4.out (le_refl _);have zf:=hz.frozen;obtain⟨z0,z1,z2,z3⟩:=hz.cells;have zf0:=zf 0;have zf1:=zf 1;have zf2:=zf 2;have zf3:=zf 3;clear zf hz)
     clear hfin;go_wp2_with fail;refine bodyPost_ret (v:=.tuple #[lo false 0 0,.int .i64 4]) (by simp [results,Tryz.results42,go_sem,z0,z1,z2,z3]) rfl ?_;exact HFin.out
  ·have hs:((kj l).dropWhile (· != 47)).isEmpty=false:=by simpa using hs
   have hbe:((kj l).dropWhile (· != 47)).tail=jg l:=by unfold jg;rw[hs];rfl
   rw[hs,hbe,show (kj l).takeWhile (· != 47)=kd l from rfl];clear hs hbe;go_wp2_with fail;refine(HNA.out _ (cj HW0.out HA2.out)).mono ?_;rintro e W3 (⟨hok1,va,rfl,hva,hb⟩|⟨hok1,rfl,hb⟩)
   ·have HVA:=hid hva;have HO1:=hid hok1;have HA3:=hid (cj HA2.out hb);obtain⟨aa,al,ac,rfl,_⟩:=hva.form;clear hva hok1 hb HNA HA2;go_wp2_with fail;refine(HNB.out _ (cj HW0.out HA3.out)).mono ?_;rintro e W4 (⟨hok2,vb,rfl,hvb,hb⟩|⟨hok2,rfl,hb⟩)
    ·obtain⟨ba,bl,bc,rfl,_,hbz,_⟩:=hvb.form;have HVB:=hid hvb;have HVA:=hid (HVA.out.below hb (le_refl _));have HO2:=hid hok2;have HA4:=hid (cj HA3.out hb);by_cases hd0:cX (jg l)=0
     ·have hbl:bl=0:=hbz.2 hd0;have HD0:=hid hd0;subst hbl;clear hvb hok2 hb HNB HA3 hbz hd0;have hfin:=kN.err (kq H4.out (by unfold kn;rw[HO1.out,HO2.out,HD0.out];rfl)) (kD HW0.out HA4.out (le_refl _) (.bool false) (.int .u64 0) (.int .u64 0) (.pointer none));have HFin:=hid hfin
      (have hz:=HZ.out.below HA4.out (le_refl _);have zf:=hz.frozen;obtain⟨z0,z1,z2,z3⟩:=hz.cells;have zf0:=zf 0;have zf1:=zf 1;have zf2:=zf 2;have zf3:=zf 3;clear zf hz)
      clear hfin;go_wp2_with fail;refine bodyPost_ret (v:=.tuple #[lo false 0 0,.int .i64 4]) (by simp [results,Tryz.results42,go_sem,z0,z1,z2,z3]) rfl ?_;exact HFin.out
     ·have hbl:(((bl:Nat):Int) == 0)=false:=by rw[beq_eq_false_iff_ne];intro e;exact hd0 (hbz.1 (by omega))
      have hpar:kn l=some (yz (jO l) (cX (kd l))*((cX (jg l):Nat):Rat)⁻¹):=by
       unfold kn;rw[HO1.out,HO2.out,Bool.true_and,Bool.true_and,if_pos (by simpa using hd0)]
      have HPar:=hid (Gc H4.out hpar);have HWn:=hid (fun v W (hv:cn W v (cX (kd l)))=>(JJ (jO l) v _ W hv).mono fun e W' h=>h.q (r:=yz (jO l) (cX (kd l))) (zM _ _).1 (zM _ _).2);have HWd:=hid (fun v W (hv:cn W v (cX (jg l)))=>(JJ false v _ W hv).mono fun e W' h=>h.q (r:=((cX (jg l):Nat):Rat)) rfl rfl);have hdn:(((cX (jg l):Nat):Rat)).num≠0:=by
       show ((cX (jg l):Nat):Int)≠0;omega
      have HRc:=hid (fun v W (hv:IsQ W v ((cX (jg l):Nat):Rat))=>cbX v _ W hv hdn);obtain⟨K,hK1,hK2,hK3⟩:∃ K:Nat,4001<=19*K/\(K:Int)<=1073741824/\((K+K:Nat):Int)<=1073741824:=⟨300,by omega,by omega,by omega⟩;have hz1:=ZJ (k:=K) (jO l) (Uj HO1.out (by have:=GV l;omega)) (by omega);have hz2:=cgk (k:=K) (Uj HO2.out (by have:=Ji l;omega)) (by omega);have hz3:=hz2.inv hdn;have HTm:=hid (fun v1 v2 W h1 h2 hG=>GJ v1 v2 (yz (jO l) (cX (kd l))) ((cX (jg l):Nat):Rat)⁻¹ K W h1 h2 hz1 hz3 hK2 hG);have HTx:=hid (fun v W h=>cct v (yz (jO l) (cX (kd l))*((cX (jg l):Nat):Rat)⁻¹) (K+K) W h (hz1.mul hz3) hK3);clear hz1 hz2 hz3 hK1 hK2 hK3 hdn hpar hvb hok2 hb HNB HA3 hbz hd0;generalize yz (jO l) (cX (kd l))=qn at *;generalize hdv:((cX (jg l):Nat):Rat)=qd at *;go_wp2_with fail;refine(HWn.out _ _ HVA.out).mono ?_;rintro e W5 ⟨v1,rfl,hv1,hb⟩;have HV1:=hid hv1;have HVB:=hid (HVB.out.below hb (le_refl _));have HA5:=hid (cj HA4.out hb);obtain⟨_,_,_,_,rfl⟩:=hv1.form;clear hv1 hb HWn HA4 HVA hdv;go_wp2_with fail;refine(HWd.out _ _ HVB.out).mono ?_;rintro e W6 ⟨v2,rfl,hv2,hb⟩;have HV1:=hid (HV1.out.below hb (le_refl _));have HV2:=hid hv2;have HA6:=hid (cj HA5.out hb);obtain⟨_,_,_,_,rfl⟩:=hv2.form;clear hv2 hb HWd HA5 HVB;go_wp2_with fail;refine(HRc.out _ _ HV2.out).mono ?_;rintro e W7 ⟨v3,rfl,hv3,hb⟩;have HV1:=hid (HV1.out.below hb (le_refl _));have HV3:=hid hv3;have HA7:=hid (cj HA6.out hb);obtain⟨_,_,_,_,rfl⟩:=hv3.form;clear hv3 hb HRc HA6 HV2;go_wp2_with fail;refine(HTm.out _ _ _ HV1.out HV3.out (HG.out.below (cj HW0.out HA7.out) HG.out.size)).mono ?_;rintro e W8 ⟨v4,rfl,hv4,hb⟩;have HV4:=hid hv4
      have HA8:=hid (cj HA7.out hb);obtain⟨sx,ax,bx,px,rfl⟩:=hv4.form;clear hv4 hb HTm HA7 HV1 HV3;have hlt:w.heap.size<W8.heap.size:=World.block_lt_of_cell? W8 ⟨w.heap.size,0,none⟩ (HZ.out.below HA8.out (le_refl _)).cells.1;go_wp2_with fail;obtain⟨W9,hW,hb,⟨g0,g1,g2,g3⟩⟩:=YX W8 (.bool sx) (u ax) (u bx) (.pointer px);rw[← hW];clear hW;have HV4:=hid (HV4.out.below hb (le_refl _));have HA9:=hid (cj HA8.out hb);have m1:¬ w.heap.size=W8.heap.size:=by omega
      have m2:¬ W8.heap.size=w.heap.size:=by omega
      clear hb HA8 hlt;generalize W8.heap.size=bx1 at *;refine(HTx.out _ _ HV4.out).mono ?_;rintro e W10 ⟨rfl,hb⟩
      (have hh:=cD (b:=bx1) hb g0 g1 g2 g3;clear g0 g1 g2 g3;obtain⟨g0,g1,g2,g3⟩:=hh)
      have HV4:=hid (HV4.out.below hb (le_refl _));have HAx:=hid (cj HA9.out hb);clear hb HA9 HTx;by_cases hq:kf (qn*qd⁻¹)=l
      ·rw[hq];have hp:=HPar.out;rw[if_pos hq] at hp;have hz:=HZ.out.below HAx.out (le_refl _);have hfin:=uQ.stored (a0:=.bool sx) (a1:=u ax) (a2:=u bx) (a3:=.pointer px) hz HV4.out (cj HW0.out HAx.out) (le_refl _);have HFin:=hid hfin;have HPv:=hid hp
       (have hz:=HZ.out.below HAx.out (le_refl _);have zf:=hz.frozen;obtain⟨z0,z1,z2,z3⟩:=hz.cells;have zf0:=zf 0;have zf1:=zf 1;have zf2:=zf 2;have zf3:=zf 3;clear zf hz)
       clear hfin hz hq hp HPar;go_wp2_with fail;refine bodyPost_ret (v:=.tuple #[.agg #[.bool sx,u ax,u bx,.pointer px],.int .i64 0]) (by simp [results,Tryz.results42,go_sem,z0,z1,z2,z3]) rfl ?_;obtain⟨v,hv,hqq,hbb⟩:=HFin.out;injection hv with hv
       subst hv;refine⟨_,by rw[HPv.out],?_,hbb⟩;rw[HPv.out];exact hqq
      ·have hp:=HPar.out;rw[if_neg hq] at hp;have hfin:=kN.err hp (kD HW0.out HAx.out (le_refl _) (.bool false) (.int .u64 0) (.int .u64 0) (.pointer none));have HFin:=hid hfin
       (have hz:=HZ.out.below HAx.out (le_refl _);have zf:=hz.frozen;obtain⟨z0,z1,z2,z3⟩:=hz.cells;have zf0:=zf 0;have zf1:=zf 1;have zf2:=zf 2;have zf3:=zf 3;clear zf hz)
       clear hfin hp HPar HV4;generalize kf (qn*qd⁻¹)=tq at *;have hqb:(tq == l)=false:=by simpa using hq
       clear hq;go_wp2_with fail;refine bodyPost_ret (v:=.tuple #[lo false 0 0,.int .i64 4]) (by simp [results,Tryz.results42,go_sem,z0,z1,z2,z3]) rfl ?_;exact HFin.out
    ·have HO2:=hid hok2;have HA4:=hid (cj HA3.out hb);clear hok2 hb HNB HA3 HVA;have hfin:=kN.err (kq H4.out (by unfold kn;rw[HO2.out,Bool.and_false,Bool.false_and];rfl)) (kD HW0.out HA4.out (le_refl _) (.bool false) (.int .u64 0) (.int .u64 0) (.pointer none));have HFin:=hid hfin
     (have hz:=HZ.out.below HA4.out (le_refl _);have zf:=hz.frozen;obtain⟨z0,z1,z2,z3⟩:=hz.cells;have zf0:=zf 0;have zf1:=zf 1;have zf2:=zf 2;have zf3:=zf 3;clear zf hz)
     clear hfin;go_wp2_with fail;refine bodyPost_ret (v:=.tuple #[lo false 0 0,.int .i64 4]) (by simp [results,Tryz.results42,go_sem,z0,z1,z2,z3]) rfl ?_;exact HFin.out
   ·have HO1:=hid hok1;have HA3:=hid (cj HA2.out hb);clear hok1 hb HNA HA2;go_wp2_with fail;refine(HNB.out _ (cj HW0.out HA3.out)).mono ?_;rintro e W4 (⟨hok2,vb,rfl,hvb,hb⟩|⟨hok2,rfl,hb⟩)
    ·obtain⟨ba,bl,bc,rfl,_⟩:=hvb.form;have HA4:=hid (cj HA3.out hb);clear hvb hok2 hb HNB HA3;have hfin:=kN.err (kq H4.out (by unfold kn;rw[HO1.out,Bool.false_and,Bool.false_and];rfl)) (kD HW0.out HA4.out (le_refl _) (.bool false) (.int .u64 0) (.int .u64 0) (.pointer none));have HFin:=hid hfin
     (have hz:=HZ.out.below HA4.out (le_refl _);have zf:=hz.frozen;obtain⟨z0,z1,z2,z3⟩:=hz.cells;have zf0:=zf 0;have zf1:=zf 1;have zf2:=zf 2;have zf3:=zf 3;clear zf hz)
     clear hfin;go_wp2_with fail;refine bodyPost_ret (v:=.tuple #[lo false 0 0,.int .i64 4]) (by simp [results,Tryz.results42,go_sem,z0,z1,z2,z3]) rfl ?_;exact HFin.out
    ·have HA4:=hid (cj HA3.out hb);clear hok2 hb HNB HA3;have hfin:=kN.err (kq H4.out (by unfold kn;rw[HO1.out,Bool.false_and,Bool.false_and];rfl)) (kD HW0.out HA4.out (le_refl _) (.bool false) (.int .u64 0) (.int .u64 0) (.pointer none));have HFin:=hid hfin
     (have hz:=HZ.out.below HA4.out (le_refl _);have zf:=hz.frozen;obtain⟨z0,z1,z2,z3⟩:=hz.cells;have zf0:=zf 0;have zf1:=zf 1;have zf2:=zf 2;have zf3:=zf 3;clear zf hz)
     clear hfin;go_wp2_with fail;refine bodyPost_ret (v:=.tuple #[lo false 0 0,.int .i64 4]) (by simp [results,Tryz.results42,go_sem,z0,z1,z2,z3]) rfl ?_;exact HFin.out
def IsS (w:World) (v:Value) (lo hi:Rat):Prop:=∃ s1 a1 b1 p1 s2 a2 b2 p2,v=.agg #[.bool s1,u a1,u b1,.pointer p1,.bool s2,u a2,u b2,.pointer p2]/\
 IsQ w (.agg #[.bool s1,u a1,u b1,.pointer p1]) lo/\IsQ w (.agg #[.bool s2,u a2,u b2,.pointer p2]) hi
theorem IsS.below {w w':World}{v:Value}{lo hi:Rat}{k:Nat}(h:IsS w v lo hi) (hb:Below k w w') (hk:w.heap.size<=k):IsS w' v lo hi:=by
 obtain⟨s1,a1,b1,p1,s2,a2,b2,p2,hv,h1,h2⟩:=h;exact⟨s1,a1,b1,p1,s2,a2,b2,p2,hv,h1.below hb hk,h2.below hb hk⟩
def GY (w:World) (lo hi:Rat) (e:Ending) (w':World):Prop:=∃ v,e=.returned v/\IsS w' v lo hi/\Below w.heap.size w w'
def NBox (W:World) (R:Nat):Prop:=∃ (cs:Array Value) (t:TypeId) (fr:Nat×Nat),W.heap[R]?=some (.cells cs t fr)/\t≠29/\∀ x,cs[0]?=some x->∃ s,x=.bool s
theorem cn.other {W W':World}{R:Nat}{v:Value}{n:Nat}(hR:NBox W R) (h:cn W v n) (ho:jc R W W'):cn W' v n:=by
 obtain⟨cs,t,fr,hb,ht,_⟩:=hR;obtain⟨xs,⟨⟨ao,c,rfl,h1,h2,hr⟩,ok,typ⟩,htr,hv⟩:=h;refine⟨xs,⟨⟨ao,c,rfl,h1,h2,fun hn=>?_⟩,ok,typ.other hb ht ho⟩,htr,hv⟩;obtain⟨b,off,rfl,row⟩:=hr hn;refine⟨b,off,rfl,ho.row ?_ row⟩;intro e;obtain⟨cs',fr',hc⟩:=typ ⟨b,off,none⟩ _ _ rfl hn;rw[show (⟨b,off,none⟩:Addr).block=R from e,hb] at hc;injection hc with hc
 injection hc with _ hc
 exact ht hc
theorem Num.other {W W':World}{R:Nat}{v:Value}{neg:Bool}{n d:Nat}(hR:NBox W R) (h:Num W v neg n d) (ho:jc R W W'):Num W' v neg n d:=by
 cases h with
 |low l hv hd hn hdB=>exact .low l hv hd hn hdB
 |wide b x y hv hx hy h1 h2 hB h0 hd =>
  have hb:b≠R:=by
   intro e;subst e;obtain⟨_,_,_,rfl,_⟩:=h1.form;obtain⟨cs,t,fr,hb,_,hz⟩:=hR;rw[World.cell?,hb] at hx;obtain⟨s,e⟩:=hz _ hx;cases e
  exact .wide b x y hv ((ho.cell (p:=⟨b,0,none⟩) hb).trans hx) ((ho.cell (p:=⟨b,1,none⟩) hb).trans hy) (h1.other hR ho) (h2.other hR ho) ⟨hB.1,hB.2.to (ho.block b hb)⟩ h0 hd
theorem IsQ.other {W W':World}{R:Nat}{v:Value}{r:Rat}(hR:NBox W R) (h:IsQ W v r) (ho:jc R W W'):IsQ W' v r:=Num.other hR h ho
theorem IsS.other {W W':World}{R:Nat}{v:Value}{lo hi:Rat}(hR:NBox W R) (h:IsS W v lo hi) (ho:jc R W W'):IsS W' v lo hi:=by
 obtain⟨s1,a1,b1,p1,s2,a2,b2,p2,hv,h1,h2⟩:=h;exact⟨s1,a1,b1,p1,s2,a2,b2,p2,hv,Num.other hR h1 ho,Num.other hR h2 ho⟩
def cU (W:World) (b:Nat) (c0 c1 c2 c3 c4 c5 c6 c7:Value):Prop:=W.heap[b]?=some (.cells #[c0,c1,c2,c3,c4,c5,c6,c7] 44 (0,0))
def Za (W:World) (b:Nat):Prop:=cU W b (.bool false) (.int .u64 0) (.int .u64 0) (.pointer none) (.bool false) (.int .u64 0) (.int .u64 0) (.pointer none)
theorem cU.of_block {W W':World}{b:Nat}{c0 c1 c2 c3 c4 c5 c6 c7:Value}(h:cU W b c0 c1 c2 c3 c4 c5 c6 c7) (hb:W'.heap[b]?=W.heap[b]?):cU W' b c0 c1 c2 c3 c4 c5 c6 c7:=hb.trans h
theorem cU.lt {W:World}{b:Nat}{c0 c1 c2 c3 c4 c5 c6 c7:Value}(h:cU W b c0 c1 c2 c3 c4 c5 c6 c7):b<W.heap.size:=(Array.getElem?_eq_some_iff.1 h).1
theorem cU.below {W W':World}{b k:Nat}{c0 c1 c2 c3 c4 c5 c6 c7:Value}(h:cU W b c0 c1 c2 c3 c4 c5 c6 c7) (hb:Below k W W') (hk:W.heap.size<=k):cU W' b c0 c1 c2 c3 c4 c5 c6 c7 :=
 h.of_block (hb.block b (lt_of_lt_of_le h.lt hk))
theorem cU.cells {W:World}{b:Nat}{c0 c1 c2 c3 c4 c5 c6 c7:Value}(h:cU W b c0 c1 c2 c3 c4 c5 c6 c7) :
 W.cell? ⟨b,0,none⟩=some c0/\W.cell? ⟨b,1,none⟩=some c1/\W.cell? ⟨b,2,none⟩=some c2/\W.cell? ⟨b,3,none⟩=some c3/\
 W.cell? ⟨b,4,none⟩=some c4/\W.cell? ⟨b,5,none⟩=some c5/\W.cell? ⟨b,6,none⟩=some c6/\W.cell? ⟨b,7,none⟩=some c7:=by
 unfold cU at h;simp [World.cell?,h]
theorem cU.frozen {W:World}{b:Nat}{c0 c1 c2 c3 c4 c5 c6 c7:Value}(h:cU W b c0 c1 c2 c3 c4 c5 c6 c7) (i:Nat):W.frozen? ⟨b,i,none⟩=false:=by
 unfold cU at h;simp [World.frozen?,h]
theorem cU.nbox {W:World}{b:Nat}{s:Bool}{c1 c2 c3 c4 c5 c6 c7:Value}(h:cU W b (.bool s) c1 c2 c3 c4 c5 c6 c7):NBox W b :=
 ⟨_,_,_,h,by decide,fun x hx=>⟨s,by simpa using hx.symm⟩⟩
theorem cU.new (w:World) (c0 c1 c2 c3 c4 c5 c6 c7:Value):cU (w.alloc (.cells #[c0,c1,c2,c3,c4,c5,c6,c7] 44)) w.heap.size c0 c1 c2 c3 c4 c5 c6 c7:=heap_alloc_new w _
theorem kA {W:World}{b o:Nat}{v:Value}{cs:Array Value}{t:TypeId}(h:W.heap[b]?=some (.cells cs t (0,0))):(W.setCell ⟨b,o,none⟩ v).heap[b]?=some (.cells (cs.setIfInBounds o v) t (0,0)):=by
 simp only[World.setCell,Array.getElem?_modify,if_pos,h];rfl
theorem cU.setLow {W:World}{b:Nat}{c0 c1 c2 c3 c4 c5 c6 c7:Value}(h:cU W b c0 c1 c2 c3 c4 c5 c6 c7) (d0 d1 d2 d3:Value) :
 cU ((((W.setCell ⟨b,0,none⟩ d0).setCell ⟨b,1,none⟩ d1).setCell ⟨b,2,none⟩ d2).setCell ⟨b,3,none⟩ d3) b d0 d1 d2 d3 c4 c5 c6 c7:=by
 have:=kA (o:=3) (v:=d3) (kA (o:=2) (v:=d2) (kA (o:=1) (v:=d1) (kA (o:=0) (v:=d0) h)));exact this
theorem cU.setHigh {W:World}{b:Nat}{c0 c1 c2 c3 c4 c5 c6 c7:Value}(h:cU W b c0 c1 c2 c3 c4 c5 c6 c7) (d4 d5 d6 d7:Value) :
 cU ((((W.setCell ⟨b,4,none⟩ d4).setCell ⟨b,5,none⟩ d5).setCell ⟨b,6,none⟩ d6).setCell ⟨b,7,none⟩ d7) b c0 c1 c2 c3 d4 d5 d6 d7:=by
 have:=kA (o:=7) (v:=d7) (kA (o:=6) (v:=d6) (kA (o:=5) (v:=d5) (kA (o:=4) (v:=d4) h)));exact this
theorem cdl (W:World) (b i:Nat) (d0 d1 d2 d3:Value):jc b W ((((W.setCell ⟨b,i,none⟩ d0).setCell ⟨b,i+1,none⟩ d1).setCell ⟨b,i+2,none⟩ d2).setCell ⟨b,i+3,none⟩ d3) :=
 ((((jc.refl b W).set i d0).set (i+1) d1).set (i+2) d2).set (i+3) d3
theorem only8 (W:World) (b:Nat) (d0 d1 d2 d3 d4 d5 d6 d7:Value):jc b W ((((((((W.setCell ⟨b,0,none⟩ d0).setCell ⟨b,1,none⟩ d1).setCell ⟨b,2,none⟩ d2).setCell ⟨b,3,none⟩ d3).setCell ⟨b,4,none⟩ d4).setCell ⟨b,5,none⟩ d5).setCell ⟨b,6,none⟩ d6).setCell ⟨b,7,none⟩ d7) :=
 ((((((((jc.refl b W).set 0 d0).set 1 d1).set 2 d2).set 3 d3).set 4 d4).set 5 d5).set 6 d6).set 7 d7
theorem GY.stored {w W:World}{R:Nat}{v:Value}{lo hi:Rat}(hR:NBox W R) (h:IsS W v lo hi) (hb:Below w.heap.size w W) (hw:w.heap.size<=R) (d0 d1 d2 d3 d4 d5 d6 d7:Value) :
 GY w lo hi (.returned v) ((((((((W.setCell ⟨R,0,none⟩ d0).setCell ⟨R,1,none⟩ d1).setCell ⟨R,2,none⟩ d2).setCell ⟨R,3,none⟩ d3).setCell ⟨R,4,none⟩ d4).setCell ⟨R,5,none⟩ d5).setCell ⟨R,6,none⟩ d6).setCell ⟨R,7,none⟩ d7) :=
 ⟨v,rfl,h.other hR (only8 W R d0 d1 d2 d3 d4 d5 d6 d7),hb.trans ((only8 W R d0 d1 d2 d3 d4 d5 d6 d7).below hw)⟩
def QAt (w:World) (b i:Nat) (v:Value):Prop:=∃ s a c p,v=.agg #[.bool s,u a,u c,.pointer p]/\
 w.cell? ⟨b,i,none⟩=some (.bool s)/\w.cell? ⟨b,i+1,none⟩=some (u a)/\w.cell? ⟨b,i+2,none⟩=some (u c)/\w.cell? ⟨b,i+3,none⟩=some (.pointer p)
theorem QAt.lt {w:World}{b i:Nat}{v:Value}(h:QAt w b i v):b<w.heap.size:=by
 obtain⟨_,_,_,_,_,h,_⟩:=h;exact World.block_lt_of_cell? w _ h
theorem QAt.below {w w':World}{b i k:Nat}{v:Value}(h:QAt w b i v) (hb:Below k w w') (hk:w.heap.size<=k):QAt w' b i v:=by
 have hlt:=lt_of_lt_of_le h.lt hk;obtain⟨s,a,c,p,hv,h0,h1,h2,h3⟩:=h;exact⟨s,a,c,p,hv,(hb.cell (p:=⟨b,i,none⟩) hlt).trans h0,(hb.cell (p:=⟨b,i+1,none⟩) hlt).trans h1,(hb.cell (p:=⟨b,i+2,none⟩) hlt).trans h2,(hb.cell (p:=⟨b,i+3,none⟩) hlt).trans h3⟩
def QSl (w:World) (v:Value) (rs:List Rat):Prop:=∃ ao cap,v=.slice ao rs.length cap/\rs.length<=cap/\(cap:Int)<=9223372036854775807/\
 (0<rs.length->∃ b off,ao=some ⟨b,off,none⟩/\∀ i,i<rs.length->∃ x,QAt w b (off+i*4) x/\IsQ w x (rs[i]?.getD 0))
def jm (r:Rat) (rs:List Rat):Rat:=rs.foldl (fun a x=>if x<a then x else a) r
def cL (r:Rat) (rs:List Rat):Rat:=rs.foldl (fun a x=>if a<x then x else a) r
theorem cfB (r:Rat) (rs:List Rat) (x:Rat):jm r (rs++[x])=if x<jm r rs then x else jm r rs:=by unfold jm;rw[List.foldl_append];rfl
theorem ccN (r:Rat) (rs:List Rat) (x:Rat):cL r (rs++[x])=if cL r rs<x then x else cL r rs:=by unfold cL;rw[List.foldl_append];rfl
theorem Wb (r:Rat) (rs:List Rat):jm r rs=r\/jm r rs∈rs:=by
 induction rs generalizing r with
 |nil=>exact .inl rfl
 |cons x rs ih =>
  show jm (if x<r then x else r) rs=r\/_;rcases ih (if x<r then x else r) with h|h
  ·rw[show jm r (x::rs)=jm (if x<r then x else r) rs from rfl,h];split
   ·exact .inr (by simp)
   ·exact .inl rfl
  ·exact .inr (mem_cons_of_mem _ h)
theorem KB (r:Rat) (rs:List Rat):cL r rs=r\/cL r rs∈rs:=by
 induction rs generalizing r with
 |nil=>exact .inl rfl
 |cons x rs ih =>
  show cL (if r<x then x else r) rs=r\/_;rcases ih (if r<x then x else r) with h|h
  ·rw[show cL r (x::rs)=cL (if r<x then x else r) rs from rfl,h];split
   ·exact .inr (by simp)
   ·exact .inl rfl
  ·exact .inr (mem_cons_of_mem _ h)
theorem KV {a b:Rat}(h:a<b):¬ b<a:=Rat.not_lt.2 (Rat.le_of_lt h)
def ArRel (w:World) (n0:Nat) (r:Rat) (rs:List Rat) (i:Value) (wr:World):Prop :=
 ∃ k s1 a1 b1 p1 s2 a2 b2 p2,i=.int .i64 ((k:Nat):Int)/\k<=rs.length/\cU wr (n0+1+1) (.bool s1) (u a1) (u b1) (.pointer p1) (.bool s2) (u a2) (u b2) (.pointer p2)/\
  IsQ w (.agg #[.bool s1,u a1,u b1,.pointer p1]) (jm r (rs.take k))/\IsQ w (.agg #[.bool s2,u a2,u b2,.pointer p2]) (cL r (rs.take k))/\
  Za wr (n0+1)/\Below w.heap.size w wr
set_option maxHeartbeats 1000000 in
theorem Kl (v sl:Value) (r:Rat) (rs:List Rat) (k:Nat) (w:World) (h:IsQ w v r) (hs:QSl w sl rs) (z:Siz r k) (zs:∀ x∈rs,Siz x k) (hk:(k:Int)<=1073741824) (hl:(rs.length:Int)<=1048576) :
 Calls Tryz.prog 76 #[v,sl] w (GY w (jm r rs) (cL r rs)):=by
 have HQ:=hid h;have hzl:∀ j,Siz (jm r (rs.take j)) k:=fun j=>by
  rcases Wb r (rs.take j) with e|e
  ·rw[e];exact z
  ·exact zs _ (List.mem_of_mem_take e)
 have hzh:∀ j,Siz (cL r (rs.take j)) k:=fun j=>by
  rcases KB r (rs.take j) with e|e
  ·rw[e];exact z
  ·exact zs _ (List.mem_of_mem_take e)
 have HZL:=hid hzl;have HZH:=hid hzh;have HZS:=hid zs;obtain⟨s0,a0,b0,p0,rfl⟩:=h.form;obtain⟨ao,cap,rfl,hc1,hc2,hr⟩:=hs;have HR:=hid hr;clear h hr hzl hzh zs z
 go_enter Tryz.func76,Tryz.ntmps76
 go_wp2_with fail;have hb1:=cW w (.cells #[.bool s0,u a0,u b0,.pointer p0] 32);have hz1:=cU.new (w.alloc (.cells #[.bool s0,u a0,u b0,.pointer p0] 32)) (.bool false) (.int .u64 0) (.int .u64 0) (.pointer none) (.bool false) (.int .u64 0) (.int .u64 0) (.pointer none);have hs1:(w.alloc (.cells #[.bool s0,u a0,u b0,.pointer p0] 32)).heap.size=w.heap.size+1:=size_alloc ..;rw[hs1] at hz1;have hb2:=cW (w.alloc (.cells #[.bool s0,u a0,u b0,.pointer p0] 32)) (.cells #[.bool false,.int .u64 0,.int .u64 0,.pointer none,.bool false,.int .u64 0,.int .u64 0,.pointer none] 44);have hs2:((w.alloc (.cells #[.bool s0,u a0,u b0,.pointer p0] 32)).alloc (.cells #[.bool false,.int .u64 0,.int .u64 0,.pointer none,.bool false,.int .u64 0,.int .u64 0,.pointer none] 44)).heap.size=w.heap.size+1+1:=by rw[size_alloc,hs1]
 have hb12:=cj hb1 hb2;obtain⟨W1,hW1⟩:∃ W1,(w.alloc (.cells #[.bool s0,u a0,u b0,.pointer p0] 32)).alloc (.cells #[.bool false,.int .u64 0,.int .u64 0,.pointer none,.bool false,.int .u64 0,.int .u64 0,.pointer none] 44)=W1:=⟨_,rfl⟩;rw[hW1] at hz1 hs2 hb12 ⊢;have hb3:=cW W1 (.cells #[.bool s0,u a0,u b0,.pointer p0,.bool s0,u a0,u b0,.pointer p0] 44);have hx:=cU.new W1 (.bool s0) (u a0) (u b0) (.pointer p0) (.bool s0) (u a0) (u b0) (.pointer p0);rw[hs2] at hx;have H0:Hid (ArRel w w.heap.size r rs (.int .i64 0) (W1.alloc (.cells #[.bool s0,u a0,u b0,.pointer p0,.bool s0,u a0,u b0,.pointer p0] 44))):=by
  refine⟨0,s0,a0,b0,p0,s0,a0,b0,p0,rfl,zero_le _,hx,HQ.out,HQ.out,?_,cj hb12 hb3⟩;exact cU.below hz1 hb3 (le_refl _)
 clear hW1 hb1 hb2 hb3 hb12 hz1 hs1 hs2 hx;generalize W1.alloc (.cells #[.bool s0,u a0,u b0,.pointer p0,.bool s0,u a0,u b0,.pointer p0] 44)=W2 at *
 go_loopw [13] (fun i wr=>Hid (ArRel w w.heap.size r rs i wr)) (fun i _=>rs.length-(intOf i).toNat)
 case atStart=>exact H0
 case round =>
  clear H0 HQ;obtain⟨j,s1,a1,b1,p1,s2,a2,b2,p2,rfl,hj,hX,hQ1,hQ2,hZ,hB⟩:=hrel.out;clear hrel;by_cases hlt:j<rs.length
  ·obtain⟨b,off,rfl,hel⟩:=HR.out (by omega);obtain⟨x,hxat,hxq⟩:=hel j hlt;have hsn:rs.take (j+1)=rs.take j++[rs[j]?.getD 0]:=by
    rw[List.take_succ_eq_append_getElem hlt,List.getElem?_eq_getElem hlt];rfl
   have hzx:=HZS.out (rs[j]?.getD 0) (by rw[List.getElem?_eq_getElem hlt];exact List.getElem_mem hlt);have e1:=cfB r (rs.take j) (rs[j]?.getD 0);have e2:=ccN r (rs.take j) (rs[j]?.getD 0);rw[← hsn] at e1 e2;have zl:=HZL.out j;have zh:=HZH.out j;generalize rs[j]?.getD 0=t at *;have hxw:=hxat.below hB (le_refl _);obtain⟨sx,ax,bx,px,rfl,k0,k1,k2,k3⟩:=hxw;have HC:=hid (fun s a b p m W (hm:IsQ w (.agg #[.bool s,u a,u b,.pointer p]) m) (zm:Siz m k) (hW:Below w.heap.size w W)=>che _ _ t m k W (hxq.below hW (le_refl _)) (hm.below hW (le_refl _)) hzx zm hk);have HX:=hid hX;have HZ:=hid hZ;have HB:=hid hB;have HQ1:=hid hQ1;have HQ2:=hid hQ2;have HQx:=hid hxq;have E1:=hid e1;have E2:=hid e2;have Zl:=hid zl;have Zh:=hid zh;clear hX hZ hB hQ1 hQ2 hxat hxq e1 e2 zl zh hzx hsn hel HR HZL HZH HZS;generalize jm r (rs.take j)=lo at *;generalize cL r (rs.take j)=hi at *;obtain⟨c0,c1,c2,c3,c4,c5,c6,c7⟩:=HX.out.cells;have ltz:w.heap.size+1+1<wr.heap.size:=HX.out.lt;go_wp2_with fail;obtain⟨W3,hW,hb,⟨g0,g1,g2,g3⟩⟩:=YX wr (.bool sx) (u ax) (u bx) (.pointer px);rw[← hW];clear hW;have HX:=hid (HX.out.below hb (le_refl _));have HZ:=hid (cU.below HZ.out hb (le_refl _));have HB:=hid (cj HB.out hb);have m1:¬ wr.heap.size=w.heap.size+1+1:=by omega
   have m2:¬ w.heap.size+1+1=wr.heap.size:=by omega
   have n5:w.heap.size+1≠w.heap.size+1+1:=by omega
   clear c0 c1 c2 c3 c4 c5 c6 c7;clear hb ltz k0 k1 k2 k3;generalize wr.heap.size=bX at *;refine(HC.out s1 a1 b1 p1 lo W3 HQ1.out Zl.out HB.out).mono ?_;rintro e W4 ⟨rfl,hb⟩
   (have hh:=cD (b:=bX) hb g0 g1 g2 g3;clear g0 g1 g2 g3;obtain⟨g0,g1,g2,g3⟩:=hh)
   have HX:=hid (HX.out.below hb (le_refl _));have HZ:=hid (cU.below HZ.out hb (le_refl _));have HB:=hid (cj HB.out hb);clear hb;obtain⟨c0,c1,c2,c3,c4,c5,c6,c7⟩:=HX.out.cells;have zf0:=HX.out.frozen 0;have zf1:=HX.out.frozen 1;have zf2:=HX.out.frozen 2;have zf3:=HX.out.frozen 3;have zf4:=HX.out.frozen 4;have zf5:=HX.out.frozen 5;have zf6:=HX.out.frozen 6;have zf7:=HX.out.frozen 7;by_cases hcl:t<lo
   ·have hcn:cI t lo<0:=by unfold cI;rw[if_pos hcl];decide
    have H1:=hid hcl;clear hcl;generalize cI t lo=c at *;go_wp2_with fail;have hX':=HX.out.setLow (.bool sx) (u ax) (u bx) (.pointer px);have hO':=cdl W4 (w.heap.size+1+1) 0 (.bool sx) (u ax) (u bx) (.pointer px);have hZ':Za _ (w.heap.size+1):=cU.of_block HZ.out (hO'.block (w.heap.size+1) n5);have hB':=HB.out.trans (hO'.below (show w.heap.size<=w.heap.size+1+1 by omega));have i0:=(hO'.cell (p:=⟨bX,0,none⟩) m1).trans g0;have i1:=(hO'.cell (p:=⟨bX,1,none⟩) m1).trans g1;have i2:=(hO'.cell (p:=⟨bX,2,none⟩) m1).trans g2;have i3:=(hO'.cell (p:=⟨bX,3,none⟩) m1).trans g3;clear g0 g1 g2 g3 HX HZ HB hO';clear c0 c1 c2 c3 c4 c5 c6 c7;clear zf0 zf1 zf2 zf3 zf4 zf5 zf6 zf7;obtain⟨W5,hW5⟩:∃ W5,(((W4.setCell ⟨w.heap.size+1+1,0,none⟩ (.bool sx)).setCell ⟨w.heap.size+1+1,1,none⟩ (u ax)).setCell ⟨w.heap.size+1+1,2,none⟩ (u bx)).setCell ⟨w.heap.size+1+1,3,none⟩ (.pointer px)=W5:=⟨_,rfl⟩;simp only[zero_add] at hZ' hB' i0 i1 i2 i3;rw[hW5] at hX' hZ' hB' i0 i1 i2 i3 ⊢;have HX:=hid hX';have HZ:=hid hZ';have HB:=hid hB';have g0:=i0;have g1:=i1;have g2:=i2;have g3:=i3;clear hX' hZ' hB' hW5 i0 i1 i2 i3;refine(HC.out s2 a2 b2 p2 hi W5 HQ2.out Zh.out HB.out).mono ?_;rintro e W6 ⟨rfl,hb⟩
    (have hh:=cD (b:=bX) hb g0 g1 g2 g3;clear g0 g1 g2 g3;obtain⟨g0,g1,g2,g3⟩:=hh)
    have HX:=hid (HX.out.below hb (le_refl _));have HZ:=hid (cU.below HZ.out hb (le_refl _));have HB:=hid (cj HB.out hb);clear hb HC;obtain⟨c0,c1,c2,c3,c4,c5,c6,c7⟩:=HX.out.cells;have zf0:=HX.out.frozen 0;have zf1:=HX.out.frozen 1;have zf2:=HX.out.frozen 2;have zf3:=HX.out.frozen 3;have zf4:=HX.out.frozen 4;have zf5:=HX.out.frozen 5;have zf6:=HX.out.frozen 6;have zf7:=HX.out.frozen 7;by_cases hch:hi<t
    ·have hcn:(0:Int)<cI t hi:=by unfold cI;rw[if_neg (KV hch),if_pos hch];decide
     have H2:=hid hch;have HX':=hid (HX.out.setHigh (.bool sx) (u ax) (u bx) (.pointer px));have HZ':=hid (cU.of_block HZ.out ((cdl W6 (w.heap.size+1+1) 4 (.bool sx) (u ax) (u bx) (.pointer px)).block (w.heap.size+1) n5));have HB':=hid (HB.out.trans ((cdl W6 (w.heap.size+1+1) 4 (.bool sx) (u ax) (u bx) (.pointer px)).below (by omega)));clear HX HZ HB hch;have HX:=HX';have HZ:=HZ';have HB:=HB';clear HX' HZ' HB';generalize cI t hi=cc at *;go_wp2_with fail
     go_roundw
     case rel=>exact⟨j+1,sx,ax,bx,px,sx,ax,bx,px,by go_num,by omega,HX.out,by rw[E1.out,if_pos H1.out];exact HQx.out,by rw[E2.out,if_pos H2.out];exact HQx.out,HZ.out,HB.out⟩
     case measure=>simp [intOf];omega
    ·have hcn:¬ (0:Int)<cI t hi:=by unfold cI;rw[if_neg hch];split<;>decide
     have H2:=hid hch;clear hch;generalize cI t hi=cc at *;go_wp2_with fail
     go_roundw
     case rel=>exact⟨j+1,sx,ax,bx,px,s2,a2,b2,p2,by go_num,by omega,HX.out,by rw[E1.out,if_pos H1.out];exact HQx.out,by rw[E2.out,if_neg H2.out];exact HQ2.out,HZ.out,HB.out⟩
     case measure=>simp [intOf];omega
   ·have hcn:¬ cI t lo<0:=by unfold cI;rw[if_neg hcl];split<;>decide
    have H1:=hid hcl;clear hcl;generalize cI t lo=c at *;go_wp2_with fail;clear c0 c1 c2 c3 c4 c5 c6 c7;clear zf0 zf1 zf2 zf3 zf4 zf5 zf6 zf7;refine(HC.out s2 a2 b2 p2 hi W4 HQ2.out Zh.out HB.out).mono ?_;rintro e W6 ⟨rfl,hb⟩
    (have hh:=cD (b:=bX) hb g0 g1 g2 g3;clear g0 g1 g2 g3;obtain⟨g0,g1,g2,g3⟩:=hh)
    have HX:=hid (HX.out.below hb (le_refl _));have HZ:=hid (cU.below HZ.out hb (le_refl _));have HB:=hid (cj HB.out hb);clear hb HC;obtain⟨c0,c1,c2,c3,c4,c5,c6,c7⟩:=HX.out.cells;have zf0:=HX.out.frozen 0;have zf1:=HX.out.frozen 1;have zf2:=HX.out.frozen 2;have zf3:=HX.out.frozen 3;have zf4:=HX.out.frozen 4;have zf5:=HX.out.frozen 5;have zf6:=HX.out.frozen 6;have zf7:=HX.out.frozen 7;by_cases hch:hi<t
    ·have hcn:(0:Int)<cI t hi:=by unfold cI;rw[if_neg (KV hch),if_pos hch];decide
     have H2:=hid hch;have HX':=hid (HX.out.setHigh (.bool sx) (u ax) (u bx) (.pointer px));have HZ':=hid (cU.of_block HZ.out ((cdl W6 (w.heap.size+1+1) 4 (.bool sx) (u ax) (u bx) (.pointer px)).block (w.heap.size+1) n5));have HB':=hid (HB.out.trans ((cdl W6 (w.heap.size+1+1) 4 (.bool sx) (u ax) (u bx) (.pointer px)).below (by omega)));clear HX HZ HB hch;have HX:=HX';have HZ:=HZ';have HB:=HB';clear HX' HZ' HB';generalize cI t hi=cc at *;go_wp2_with fail
     go_roundw
     case rel=>exact⟨j+1,s1,a1,b1,p1,sx,ax,bx,px,by go_num,by omega,HX.out,by rw[E1.out,if_neg H1.out];exact HQ1.out,by rw[E2.out,if_pos H2.out];exact HQx.out,HZ.out,HB.out⟩
     case measure=>simp [intOf];omega
    ·have hcn:¬ (0:Int)<cI t hi:=by unfold cI;rw[if_neg hch];split<;>decide
     have H2:=hid hch;clear hch;generalize cI t hi=cc at *;go_wp2_with fail
     go_roundw
     case rel=>exact⟨j+1,s1,a1,b1,p1,s2,a2,b2,p2,by go_num,by omega,HX.out,by rw[E1.out,if_neg H1.out];exact HQ1.out,by rw[E2.out,if_neg H2.out];exact HQ2.out,HZ.out,HB.out⟩
     case measure=>simp [intOf];omega
  ·obtain rfl:j=rs.length:=by omega
   have hS:IsS w (.agg #[.bool s1,u a1,u b1,.pointer p1,.bool s2,u a2,u b2,.pointer p2]) (jm r rs) (cL r rs):=by
    rw[take_length] at hQ1 hQ2;exact⟨s1,a1,b1,p1,s2,a2,b2,p2,rfl,hQ1,hQ2⟩
   have hfin:=GY.stored (cU.nbox hZ) (hS.below hB (le_refl _)) hB (show w.heap.size<=w.heap.size+1 by omega) (.bool s1) (u a1) (u b1) (.pointer p1) (.bool s2) (u a2) (u b2) (.pointer p2);have HFin:=hid hfin;obtain⟨c0,c1,c2,c3,c4,c5,c6,c7⟩:=hX.cells;obtain⟨z0,z1,z2,z3,z4,z5,z6,z7⟩:=cU.cells hZ;have zf0:=cU.frozen hZ 0;have zf1:=cU.frozen hZ 1;have zf2:=cU.frozen hZ 2;have zf3:=cU.frozen hZ 3;have zf4:=cU.frozen hZ 4;have zf5:=cU.frozen hZ 5;have zf6:=cU.frozen hZ 6;have zf7:=cU.frozen hZ 7;have n6:¬ w.heap.size+1=w.heap.size+1+1:=by omega
   have n7:¬ w.heap.size+1+1=w.heap.size+1:=by omega
   clear hfin hS hQ1 hQ2 hX hZ hB hlt;go_wp2_with fail;refine bodyPost_ret (v:=.agg #[.bool s1,u a1,u b1,.pointer p1,.bool s2,u a2,u b2,.pointer p2]) (by simp [results,Tryz.results76,go_sem,z0,z1,z2,z3,z4,z5,z6,z7]) rfl ?_;exact HFin.out
theorem qsl1 (w:World) (s:Bool) (a b:Nat) (p:Option Addr) (r:Rat) (h:IsQ w (.agg #[.bool s,u a,u b,.pointer p]) r) :
 QSl (w.alloc (.cells #[.bool s,u a,u b,.pointer p] 32)) (.slice (some ⟨w.heap.size,0,none⟩) 1 1) [r]:=by
 have hb:=cW w (.cells #[.bool s,u a,u b,.pointer p] 32);refine⟨_,1,rfl,le_refl _,by decide,fun _=>⟨w.heap.size,0,rfl,fun i hi=>?_⟩⟩;have:i=0:=by simpa using hi
 subst this;refine⟨_,⟨s,a,b,p,rfl,?_,?_,?_,?_⟩,h.below hb (le_refl _)⟩
 all_goals exact World.cell?_alloc_new ..
theorem qsl3 (w:World) (s1 s2 s3:Bool) (a1 b1 a2 b2 a3 b3:Nat) (p1 p2 p3:Option Addr) (r1 r2 r3:Rat) (h1:IsQ w (.agg #[.bool s1,u a1,u b1,.pointer p1]) r1)
 (h2:IsQ w (.agg #[.bool s2,u a2,u b2,.pointer p2]) r2) (h3:IsQ w (.agg #[.bool s3,u a3,u b3,.pointer p3]) r3) :
 QSl (w.alloc (.cells #[.bool s1,u a1,u b1,.pointer p1,.bool s2,u a2,u b2,.pointer p2,.bool s3,u a3,u b3,.pointer p3] 32)) (.slice (some ⟨w.heap.size,0,none⟩) 3 3) [r1,r2,r3]:=by
 have hb:=cW w (.cells #[.bool s1,u a1,u b1,.pointer p1,.bool s2,u a2,u b2,.pointer p2,.bool s3,u a3,u b3,.pointer p3] 32);refine⟨_,3,rfl,le_refl _,by decide,fun _=>⟨w.heap.size,0,rfl,fun i hi=>?_⟩⟩;have hi:i<3:=hi;rcases i with _|_|_|i
 ·refine⟨_,⟨s1,a1,b1,p1,rfl,?_,?_,?_,?_⟩,h1.below hb (le_refl _)⟩
  all_goals exact World.cell?_alloc_new ..
 ·refine⟨_,⟨s2,a2,b2,p2,rfl,?_,?_,?_,?_⟩,h2.below hb (le_refl _)⟩
  all_goals exact World.cell?_alloc_new ..
 ·refine⟨_,⟨s3,a3,b3,p3,rfl,?_,?_,?_,?_⟩,h3.below hb (le_refl _)⟩
  all_goals exact World.cell?_alloc_new ..
 ·omega
theorem box8z (w:World) (c0 c1 c2 c3 c4 c5 c6 c7:Value):∃ W,(w.alloc (.cells #[c0,c1,c2,c3,c4,c5,c6,c7] 44)).alloc (.cells #[.bool false,.int .u64 0,.int .u64 0,.pointer none,.bool false,.int .u64 0,.int .u64 0,.pointer none] 44)=W/\
 Below w.heap.size w W/\cU W w.heap.size c0 c1 c2 c3 c4 c5 c6 c7/\Za W (w.heap.size+1)/\W.heap.size=w.heap.size+1+1:=by
 have hb1:=cW w (.cells #[c0,c1,c2,c3,c4,c5,c6,c7] 44);have h1:=cU.new w c0 c1 c2 c3 c4 c5 c6 c7;have hs1:(w.alloc (.cells #[c0,c1,c2,c3,c4,c5,c6,c7] 44)).heap.size=w.heap.size+1:=size_alloc ..;generalize w.alloc (.cells #[c0,c1,c2,c3,c4,c5,c6,c7] 44)=W1 at *;have hb2:=cW W1 (.cells #[.bool false,.int .u64 0,.int .u64 0,.pointer none,.bool false,.int .u64 0,.int .u64 0,.pointer none] 44);have h2:=cU.new W1 (.bool false) (.int .u64 0) (.int .u64 0) (.pointer none) (.bool false) (.int .u64 0) (.int .u64 0) (.pointer none);rw[hs1] at h2;exact⟨_,rfl,cj hb1 hb2,h1.below hb2 (le_refl _),h2,by rw[size_alloc,hs1]⟩
theorem ceN (v:Value) (lo hi:Rat) (k:Nat) (w:World) (h:IsS w v lo hi) (z1:Siz lo k) (z2:Siz hi k) (hk:(k:Int)<=1073741824) :
 Calls Tryz.prog 82 #[v] w (GY w (jm lo [hi]) (cL lo [hi])):=by
 obtain⟨s1,a1,b1,p1,s2,a2,b2,p2,rfl,h1,h2⟩:=h;have HA:=hid (fun sl W (hW:Below w.heap.size w W) (hs:QSl W sl [hi])=>Kl _ sl lo [hi] k W (h1.below hW (le_refl _)) hs z1 (by intro x hx;simp at hx;subst hx;exact z2) hk (by simp));have H2:=hid h2;clear h1 h2 z1 z2 hk
 go_enter Tryz.func82,Tryz.ntmps82
 go_wp2_with fail;obtain⟨W0,hW0,hb0,_,hz,hs⟩:=box8z w (.bool s1) (u a1) (u b1) (.pointer p1) (.bool s2) (u a2) (u b2) (.pointer p2);rw[hW0];have hb1:=cW W0 (.cells #[.bool s2,u a2,u b2,.pointer p2] 32);have hq:=qsl1 W0 s2 a2 b2 p2 hi (H2.out.below hb0 (le_refl _));rw[hs] at hq;refine(HA.out _ _ (cj hb0 hb1) hq).mono ?_;rintro e W9 ⟨v,rfl,hv,hb⟩;have hb9:=cj (cj hb0 hb1) hb;have hz9:Za W9 (w.heap.size+1):=cU.below (cU.below hz hb1 (le_refl _)) hb (le_refl _);have HB9:=hid hb9;clear hb0 hb1 hq hz hs hW0 hb9 HA
 (have hv':=hv;obtain⟨t1,d1,e1,q1,t2,d2,e2,q2,rfl,_,_⟩:=hv';have HFin:=hid (GY.stored (cU.nbox hz9) hv HB9.out (by omega) (.bool t1) (u d1) (u e1) (.pointer q1) (.bool t2) (u d2) (u e2) (.pointer q2));(obtain⟨z0,z1,z2,z3,z4,z5,z6,z7⟩:=cU.cells hz9;have zf0:=cU.frozen hz9 0;have zf1:=cU.frozen hz9 1;have zf2:=cU.frozen hz9 2;have zf3:=cU.frozen hz9 3;have zf4:=cU.frozen hz9 4;have zf5:=cU.frozen hz9 5;have zf6:=cU.frozen hz9 6;have zf7:=cU.frozen hz9 7);clear hv hz9;clear hb;go_wp2_with fail;refine bodyPost_ret (v:=.agg #[.bool t1,u d1,u e1,.pointer q1,.bool t2,u d2,u e2,.pointer q2]) (by simp [results,Tryz.results82,go_sem,z0,z1,z2,z3,z4,z5,z6,z7]) rfl ?_;exact HFin.out)
theorem cdP (v1 v2:Value) (r s:Rat) (k:Nat) (w:World) (h1:IsQ w v1 r) (h2:IsQ w v2 s) (z1:Siz r k) (z2:Siz s k) (hk:(k:Int)<=1073741824) :
 Calls Tryz.prog 30 #[v1,v2] w (GY w (jm r [s]) (cL r [s])):=by
 have HA:=hid (fun sl W (hW:Below w.heap.size w W) (hs:QSl W sl [s])=>Kl v1 sl r [s] k W (h1.below hW (le_refl _)) hs z1 (by intro x hx;simp at hx;subst hx;exact z2) hk (by simp));have H2:=hid h2;obtain⟨s1,a1,b1,p1,rfl⟩:=h1.form;obtain⟨s2,a2,b2,p2,rfl⟩:=h2.form;clear h1 h2 z1 z2 hk
 go_enter Tryz.func30,Tryz.ntmps30
 go_wp2_with fail;obtain⟨W1,hW1,hb1,_,_⟩:=box2 w (.bool s1) (u a1) (u b1) (.pointer p1) (.bool s2) (u a2) (u b2) (.pointer p2);have hs1:W1.heap.size=w.heap.size+1+1:=by rw[hW1,size_alloc,size_alloc]
 rw[← hW1];have hb2:=cW W1 (.cells #[.bool false,.int .u64 0,.int .u64 0,.pointer none,.bool false,.int .u64 0,.int .u64 0,.pointer none] 44);have hz:=cU.new W1 (.bool false) (.int .u64 0) (.int .u64 0) (.pointer none) (.bool false) (.int .u64 0) (.int .u64 0) (.pointer none);have hs2:(W1.alloc (.cells #[.bool false,.int .u64 0,.int .u64 0,.pointer none,.bool false,.int .u64 0,.int .u64 0,.pointer none] 44)).heap.size=w.heap.size+1+1+1:=by rw[size_alloc,hs1]
 rw[hs1] at hz;have hb0:=cj hb1 hb2;clear hb1 hb2 hW1;generalize W1.alloc (.cells #[.bool false,.int .u64 0,.int .u64 0,.pointer none,.bool false,.int .u64 0,.int .u64 0,.pointer none] 44)=W0 at *;have hb1:=cW W0 (.cells #[.bool s2,u a2,u b2,.pointer p2] 32);have hq:=qsl1 W0 s2 a2 b2 p2 s (H2.out.below hb0 (le_refl _));rw[hs2] at hq;refine(HA.out _ _ (cj hb0 hb1) hq).mono ?_;rintro e W9 ⟨v,rfl,hv,hb⟩;have hb9:=cj (cj hb0 hb1) hb;have hz9:Za W9 (w.heap.size+1+1):=cU.below (cU.below hz hb1 (le_refl _)) hb (le_refl _);have HB9:=hid hb9;clear hb0 hb1 hq hz hs2 hs1 hb9 HA
 (have hv':=hv;obtain⟨t1,d1,e1,q1,t2,d2,e2,q2,rfl,_,_⟩:=hv';have HFin:=hid (GY.stored (cU.nbox hz9) hv HB9.out (by omega) (.bool t1) (u d1) (u e1) (.pointer q1) (.bool t2) (u d2) (u e2) (.pointer q2));(obtain⟨z0,z1,z2,z3,z4,z5,z6,z7⟩:=cU.cells hz9;have zf0:=cU.frozen hz9 0;have zf1:=cU.frozen hz9 1;have zf2:=cU.frozen hz9 2;have zf3:=cU.frozen hz9 3;have zf4:=cU.frozen hz9 4;have zf5:=cU.frozen hz9 5;have zf6:=cU.frozen hz9 6;have zf7:=cU.frozen hz9 7);clear hv hz9;clear hb;go_wp2_with fail;refine bodyPost_ret (v:=.agg #[.bool t1,u d1,u e1,.pointer q1,.bool t2,u d2,u e2,.pointer q2]) (by simp [results,Tryz.results30,go_sem,z0,z1,z2,z3,z4,z5,z6,z7]) rfl ?_;exact HFin.out)
theorem box88z (w:World) (c0 c1 c2 c3 c4 c5 c6 c7 d0 d1 d2 d3 d4 d5 d6 d7:Value):∃ W,((w.alloc (.cells #[c0,c1,c2,c3,c4,c5,c6,c7] 44)).alloc (.cells #[d0,d1,d2,d3,d4,d5,d6,d7] 44)).alloc (.cells #[.bool false,.int .u64 0,.int .u64 0,.pointer none,.bool false,.int .u64 0,.int .u64 0,.pointer none] 44)=W/\
 Below w.heap.size w W/\cU W w.heap.size c0 c1 c2 c3 c4 c5 c6 c7/\cU W (w.heap.size+1) d0 d1 d2 d3 d4 d5 d6 d7/\Za W (w.heap.size+1+1)/\W.heap.size=w.heap.size+1+1+1:=by
 have hb1:=cW w (.cells #[c0,c1,c2,c3,c4,c5,c6,c7] 44);have h1:=cU.new w c0 c1 c2 c3 c4 c5 c6 c7;have hs1:(w.alloc (.cells #[c0,c1,c2,c3,c4,c5,c6,c7] 44)).heap.size=w.heap.size+1:=size_alloc ..;generalize w.alloc (.cells #[c0,c1,c2,c3,c4,c5,c6,c7] 44)=W1 at *;obtain⟨W2,hW2,hb2,h2,h3,hs2⟩:=box8z W1 d0 d1 d2 d3 d4 d5 d6 d7;rw[hs1] at h2 h3 hs2;exact⟨W2,hW2,cj hb1 hb2,h1.below hb2 (le_refl _),h2,h3,hs2⟩
theorem cjL (v1 v2:Value) (lo hi lo2 hi2:Rat) (k:Nat) (w:World) (h1:IsS w v1 lo hi) (h2:IsS w v2 lo2 hi2) (z1:Siz lo k) (z2:Siz hi k) (z3:Siz lo2 k) (z4:Siz hi2 k) (hk:(k:Int)<=1073741824) :
 Calls Tryz.prog 60 #[v1,v2] w (GY w (jm lo [hi,lo2,hi2]) (cL lo [hi,lo2,hi2])):=by
 obtain⟨s1,a1,b1,p1,s2,a2,b2,p2,rfl,h1,h2'⟩:=h1;obtain⟨s3,a3,b3,p3,s4,a4,b4,p4,rfl,h3,h4⟩:=h2;have HA:=hid (fun sl W (hW:Below w.heap.size w W) (hs:QSl W sl [hi,lo2,hi2])=>Kl _ sl lo [hi,lo2,hi2] k W (h1.below hW (le_refl _)) hs z1 (by intro x hx;simp at hx;rcases hx with rfl|rfl|rfl<;>assumption) hk (by simp));have HQ:=hid (And.intro h2' (And.intro h3 h4));clear h1 h2' h3 h4 z1 z2 z3 z4 hk
 go_enter Tryz.func60,Tryz.ntmps60
 go_wp2_with fail;obtain⟨W0,hW0,hb0,_,_,hz,hs⟩:=box88z w (.bool s1) (u a1) (u b1) (.pointer p1) (.bool s2) (u a2) (u b2) (.pointer p2) (.bool s3) (u a3) (u b3) (.pointer p3) (.bool s4) (u a4) (u b4) (.pointer p4);rw[hW0];have hb1:=cW W0 (.cells #[.bool s2,u a2,u b2,.pointer p2,.bool s3,u a3,u b3,.pointer p3,.bool s4,u a4,u b4,.pointer p4] 32);have hq:=qsl3 W0 s2 s3 s4 a2 b2 a3 b3 a4 b4 p2 p3 p4 hi lo2 hi2 (HQ.out.1.below hb0 (le_refl _)) (HQ.out.2.1.below hb0 (le_refl _)) (HQ.out.2.2.below hb0 (le_refl _));rw[hs] at hq;refine(HA.out _ _ (cj hb0 hb1) hq).mono ?_;rintro e W9 ⟨v,rfl,hv,hb⟩;have hb9:=cj (cj hb0 hb1) hb;have hz9:Za W9 (w.heap.size+1+1):=cU.below (cU.below hz hb1 (le_refl _)) hb (le_refl _);have HB9:=hid hb9;clear hb0 hb1 hq hz hs hW0 hb9 HA
 (have hv':=hv;obtain⟨t1,d1,e1,q1,t2,d2,e2,q2,rfl,_,_⟩:=hv';have HFin:=hid (GY.stored (cU.nbox hz9) hv HB9.out (by omega) (.bool t1) (u d1) (u e1) (.pointer q1) (.bool t2) (u d2) (u e2) (.pointer q2));(obtain⟨z0,z1,z2,z3,z4,z5,z6,z7⟩:=cU.cells hz9;have zf0:=cU.frozen hz9 0;have zf1:=cU.frozen hz9 1;have zf2:=cU.frozen hz9 2;have zf3:=cU.frozen hz9 3;have zf4:=cU.frozen hz9 4;have zf5:=cU.frozen hz9 5;have zf6:=cU.frozen hz9 6;have zf7:=cU.frozen hz9 7);clear hv hz9;clear hb;go_wp2_with fail;refine bodyPost_ret (v:=.agg #[.bool t1,u d1,u e1,.pointer q1,.bool t2,u d2,u e2,.pointer q2]) (by simp [results,Tryz.results60,go_sem,z0,z1,z2,z3,z4,z5,z6,z7]) rfl ?_;exact HFin.out)
theorem chc {r s:Rat}:cI r s<=0↔r<=s:=by
 unfold cI;by_cases h1:r<s
 ·rw[if_pos h1];exact⟨fun _=>Rat.le_of_lt h1,fun _=>by decide⟩
 ·rw[if_neg h1];by_cases h2:s<r
  ·rw[if_pos h2];exact⟨fun h=>absurd h (by decide),fun h=>absurd h2 (Rat.not_lt.2 h)⟩
  ·rw[if_neg h2];exact⟨fun _=>Rat.not_lt.1 h2,fun _=>by decide⟩
theorem ciL {r:Rat}{rs:List Rat}{k:Nat}(z:Siz r k) (zs:∀ x∈rs,Siz x k):Siz (jm r rs) k:=by
 rcases Wb r rs with e|e
 ·rw[e];exact z
 ·exact zs _ e
theorem ceS {r:Rat}{rs:List Rat}{k:Nat}(z:Siz r k) (zs:∀ x∈rs,Siz x k):Siz (cL r rs) k:=by
 rcases KB r rs with e|e
 ·rw[e];exact z
 ·exact zs _ e
theorem siz1 {s:Rat}{k:Nat}(z:Siz s k):∀ x∈[s],Siz x k:=by intro x hx;simp at hx;subst hx;exact z
theorem cU.set8 {W:World}{b:Nat}{c0 c1 c2 c3 c4 c5 c6 c7:Value}(h:cU W b c0 c1 c2 c3 c4 c5 c6 c7) (d0 d1 d2 d3 d4 d5 d6 d7:Value) :
 cU ((((((((W.setCell ⟨b,0,none⟩ d0).setCell ⟨b,1,none⟩ d1).setCell ⟨b,2,none⟩ d2).setCell ⟨b,3,none⟩ d3).setCell ⟨b,4,none⟩ d4).setCell ⟨b,5,none⟩ d5).setCell ⟨b,6,none⟩ d6).setCell ⟨b,7,none⟩ d7) b d0 d1 d2 d3 d4 d5 d6 d7 :=
 (h.setLow d0 d1 d2 d3).setHigh d4 d5 d6 d7
theorem jc.box {b c:Nat}{w w':World}{a0 a1 a2 a3:Value}(h:jc b w w') (hc:¬ c=b) (h0:w.cell? ⟨c,0,none⟩=some a0) (h1:w.cell? ⟨c,1,none⟩=some a1) (h2:w.cell? ⟨c,2,none⟩=some a2) (h3:w.cell? ⟨c,3,none⟩=some a3) :
 w'.cell? ⟨c,0,none⟩=some a0/\w'.cell? ⟨c,1,none⟩=some a1/\w'.cell? ⟨c,2,none⟩=some a2/\w'.cell? ⟨c,3,none⟩=some a3 :=
 ⟨(h.cell (p:=⟨c,0,none⟩) hc).trans h0,(h.cell (p:=⟨c,1,none⟩) hc).trans h1,(h.cell (p:=⟨c,2,none⟩) hc).trans h2,(h.cell (p:=⟨c,3,none⟩) hc).trans h3⟩
def Wp (lo hi x:Rat):Bool:=decide (jm lo [hi]<=x)&&decide (x<=cL lo [hi])
theorem has_any (v vx:Value) (lo hi x:Rat) (k:Nat) (w:World) (h:IsS w v lo hi) (hx:IsQ w vx x) (z1:Siz lo k) (z2:Siz hi k) (z3:Siz x k) (hk:(k:Int)<=1073741824) :
 Calls Tryz.prog 34 #[v,vx] w (Val w (.bool (Wp lo hi x))):=by
 have HS:=hid (fun W (hW:Below w.heap.size w W)=>ceN v lo hi k W (h.below hW (le_refl _)) z1 z2 hk);have zl:=ciL z1 (siz1 z2);have zh:=ceS z1 (siz1 z2);unfold Wp;generalize jm lo [hi]=l at *;generalize cL lo [hi]=g at *;have HC1:=hid (fun v1 W (h1:IsQ W v1 l) (hW:Below w.heap.size w W)=>che v1 vx l x k W h1 (hx.below hW (le_refl _)) zl z3 hk);have HC2:=hid (fun v1 W (h1:IsQ W v1 g) (hW:Below w.heap.size w W)=>che vx v1 x g k W (hx.below hW (le_refl _)) h1 z3 zh hk);obtain⟨s1,a1,b1,p1,s2,a2,b2,p2,rfl,_,_⟩:=h;obtain⟨s3,a3,b3,p3,rfl⟩:=hx.form;clear hx z1 z2 z3 hk zl zh
 go_enter Tryz.func34,Tryz.ntmps34
 go_wp2_with fail;have hb1:=cW w (.cells #[.bool s1,u a1,u b1,.pointer p1,.bool s2,u a2,u b2,.pointer p2] 44);have hs1:(w.alloc (.cells #[.bool s1,u a1,u b1,.pointer p1,.bool s2,u a2,u b2,.pointer p2] 44)).heap.size=w.heap.size+1:=size_alloc ..;have hB:=cU.new w (.bool s1) (u a1) (u b1) (.pointer p1) (.bool s2) (u a2) (u b2) (.pointer p2);obtain⟨W1,hW1⟩:∃ W1,w.alloc (.cells #[.bool s1,u a1,u b1,.pointer p1,.bool s2,u a2,u b2,.pointer p2] 44)=W1:=⟨_,rfl⟩;rw[hW1] at hb1 hs1 hB ⊢;obtain⟨W0,hW0,hb2,⟨g0,g1,g2,g3⟩⟩:=YX W1 (.bool s3) (u a3) (u b3) (.pointer p3);rw[← hW0];rw[hs1] at g0 g1 g2 g3;have hB:=cU.below hB hb2 (le_refl _);have hb0:=cj hb1 hb2;have n1:¬ w.heap.size=w.heap.size+1:=by omega
 have n2:¬ w.heap.size+1=w.heap.size:=by omega
 clear hW1 hW0 hb1 hb2 hs1;refine(HS.out _ hb0).mono ?_;rintro e W2 ⟨v,rfl,hv,hb⟩
 (have hh:=cD (b:=w.heap.size+1) hb g0 g1 g2 g3;clear g0 g1 g2 g3;obtain⟨g0,g1,g2,g3⟩:=hh)
 have hB:=cU.below hB hb (le_refl _);have hA:=cj hb0 hb;obtain⟨t1,d1,e1,q1,t2,d2,e2,q2,rfl,h1,h2⟩:=hv;have ho:=only8 W2 w.heap.size (.bool t1) (u d1) (u e1) (.pointer q1) (.bool t2) (u d2) (u e2) (.pointer q2);have H1:=hid (h1.other hB.nbox ho);have H2:=hid (h2.other hB.nbox ho);have HA:=hid (hA.trans (ho.below (le_refl _)));have HX:=hid (hB.set8 (.bool t1) (u d1) (u e1) (.pointer q1) (.bool t2) (u d2) (u e2) (.pointer q2));have HG:=hid (ho.box n2 g0 g1 g2 g3)
 (obtain⟨c0,c1,c2,c3,c4,c5,c6,c7⟩:=hB.cells)
 (have cf0:=cU.frozen hB 0;have cf1:=cU.frozen hB 1;have cf2:=cU.frozen hB 2;have cf3:=cU.frozen hB 3;have cf4:=cU.frozen hB 4;have cf5:=cU.frozen hB 5;have cf6:=cU.frozen hB 6;have cf7:=cU.frozen hB 7)
 clear hB hb hb0 hA h1 h2 ho HS;have hn1:decide (cI l x<=0)=decide (l<=x):=by rw[decide_eq_decide];exact chc
 have hn2:decide (cI x g<=0)=decide (x<=g):=by rw[decide_eq_decide];exact chc
 generalize cI l x=m1 at *;generalize cI x g=m2 at *;generalize decide (l<=x)=r1 at *;generalize decide (x<=g)=r2 at *;go_wp2_with fail;clear c0 c1 c2 c3 c4 c5 c6 c7 cf0 cf1 cf2 cf3 cf4 cf5 cf6 cf7 g0 g1 g2 g3;obtain⟨WS,hWS⟩:∃ WS,(((((((W2.setCell ⟨w.heap.size,0,none⟩ (.bool t1)).setCell ⟨w.heap.size,1,none⟩ (u d1)).setCell ⟨w.heap.size,2,none⟩ (u e1)).setCell ⟨w.heap.size,3,none⟩ (.pointer q1)).setCell ⟨w.heap.size,4,none⟩ (.bool t2)).setCell ⟨w.heap.size,5,none⟩ (u d2)).setCell ⟨w.heap.size,6,none⟩ (u e2)).setCell ⟨w.heap.size,7,none⟩ (.pointer q2)=WS:=⟨_,rfl⟩;rw[hWS] at H1 H2 HA HX HG ⊢;clear hWS;refine(HC1.out _ _ H1.out HA.out).mono ?_;rintro e W3 ⟨rfl,hb⟩;obtain⟨g0,g1,g2,g3⟩:=HG.out
 (have hh:=cD (b:=w.heap.size+1) hb g0 g1 g2 g3;clear g0 g1 g2 g3;obtain⟨g0,g1,g2,g3⟩:=hh)
 have hB:=cU.below HX.out hb (le_refl _)
 (obtain⟨c0,c1,c2,c3,c4,c5,c6,c7⟩:=hB.cells)
 have H2:=hid (H2.out.below hb (le_refl _));have HA:=hid (cj HA.out hb);clear hb hB HX HG H1 HC1;cases r1
 ·have hr1:¬ m1<=0:=by simpa using hn1
  have hrd:decide (m1<=0)=false:=hn1;go_wp2_with fail
  go_ret
  exact⟨rfl,HA.out⟩
 ·have hr1:m1<=0:=by simpa using hn1
  go_wp2_with fail;refine(HC2.out _ _ H2.out HA.out).mono ?_;rintro e W4 ⟨rfl,hb⟩;have HA:=hid (cj HA.out hb);clear hb HC2 H2;cases r2
  ·have hr2:¬ m2<=0:=by simpa using hn2
   go_wp2_with fail
   go_ret
   exact⟨rfl,HA.out⟩
  ·have hr2:m2<=0:=by simpa using hn2
   go_wp2_with fail
   go_ret
   exact⟨rfl,HA.out⟩
end Go.Proofs.YtobfdjojhfpakaaGreatDoor
