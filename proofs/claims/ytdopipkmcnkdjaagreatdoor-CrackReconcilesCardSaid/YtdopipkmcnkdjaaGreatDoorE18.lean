/- Part 18. -/
import Derived.Test.YtdopipkmcnkdjaaGreatDoorE17
set_option linter.all false

namespace Go.Proofs.YtdopipkmcnkdjaaGreatDoor.Lim
theorem cdF (n:Int) (g:Nat):(n/(g:Int)).natAbs<=n.natAbs:=by
 rcases kH g with h|h
 ·subst h;simp
 ·rcases (Decidable.em (n<0)) with hn|hn
  ·have h1:=Int.mul_ediv_add_emod n g;have h2:=Int.emod_nonneg n (b:=(g:Int)) (by omega);have h3:=Int.emod_lt_of_pos n (b:=(g:Int)) (by omega);have h4:n<=n/(g:Int):=by
    have:n*(g:Int)<=n*1:=Int.mul_le_mul_of_nonpos_left (by omega) (by omega);rw[Int.mul_one] at this;exact(Int.le_ediv_iff_mul_le (by omega)).2 this
   have h5:n/(g:Int)<0:=Int.ediv_neg_of_neg_of_pos hn (by omega);omega
  ·have h1:0<=n/(g:Int):=Int.ediv_nonneg (by omega) (by omega);have h2:n/(g:Int)<=n:=Int.ediv_le_self _ (by omega);omega
theorem ccN (n:Int) (d:Nat) (hd:d≠0):(mkRat n d).num.natAbs<=n.natAbs/\(mkRat n d).den<=d:=by
 rw[Rat.num_mkRat,Rat.den_mkRat,cg hd,cg hd];exact⟨cdF _ _,kX _ _⟩
theorem cnM (r s:Rat):(r*s).num.natAbs<=r.num.natAbs*s.num.natAbs/\(r*s).den<=r.den*s.den:=by
 rw[Rat.mul_def'];have:=ccN (r.num*s.num) (r.den*s.den) (Nat.mul_ne_zero r.den_nz s.den_nz)
 rwa [Int.natAbs_mul] at this
theorem cpn (r s:Rat):(r+s).num.natAbs<=r.num.natAbs*s.den+s.num.natAbs*r.den/\(r+s).den<=r.den*s.den:=by
 rw[Rat.add_def'];have:=ccN (r.num*s.den+s.num*r.den) (r.den*s.den) (Nat.mul_ne_zero r.den_nz s.den_nz);refine⟨cA this.1 ?_,this.2⟩;refine cA (Int.natAbs_add_le _ _) ?_;rw[Int.natAbs_mul,Int.natAbs_mul];simp
theorem EU (neg:Bool) (n:Nat):(if neg then -(n:Rat) else (n:Rat)).num=(if neg then -(n:Int) else (n:Int))/\(if neg then -(n:Rat) else (n:Rat)).den=1:=by
 cases neg
 ·exact⟨rfl,rfl⟩
 ·exact⟨rfl,rfl⟩
end Go.Proofs.YtdopipkmcnkdjaaGreatDoor.Lim

namespace Go.Proofs.YtdopipkmcnkdjaaGreatDoor
open Go Go.RowKit Go.Proofs Lim
theorem Siz.mul {r s:Rat}{k j:Nat}(h1:Siz r k) (h2:Siz s j):Siz (r*s) (k+j):=by
 obtain⟨a,b⟩:=cnM r s;exact⟨jP a (CC h1.1 h2.1),jP b (CC h1.2 h2.2)⟩
theorem Siz.add {r s:Rat}{k j:Nat}(h1:Siz r k) (h2:Siz s j):Siz (r+s) (k+j+1):=by
 obtain⟨a,b⟩:=cpn r s;have e1:=CC h1.1 h2.2;have e2:=CC h2.1 h1.2;rw[Wz j k] at e2;have e3:=CC h1.2 h2.2;have h:B^(k+j)*2<=B^(k+j+1):=by rw[ji];exact jz _ ccs
 refine⟨?_,?_⟩
 ·refine jP a ?_;omega
 ·refine jP b ?_;omega
theorem Siz.sub {r s:Rat}{k j:Nat}(h1:Siz r k) (h2:Siz s j):Siz (r-s) (k+j+1):=by
 rw[Rat.sub_eq_add_neg];exact h1.add h2.neg
theorem Siz.zero (k:Nat) (h:1<=k):Siz 0 k:=by
 have:1<B^k:=cI (show 1<B^1 by decide) (jY kn h);exact⟨by simp;omega,by simp;omega⟩
theorem KY {L k:Nat}(h:L<=19*k):10^L<=B^k:=by
 refine cA (jY (by omega) h) ?_;rw[Nat.pow_mul];exact cbB (by decide) k
theorem Siz.read (s:List UInt8) {L k:Nat}(h:s.length<=L) (h1:1<=L) (hk:L<=19*k):Siz (kG s).1 k:=by
 obtain⟨a,b⟩:=cjC s h h1;exact⟨cI a (KY hk),cI b (KY hk)⟩
theorem chT (s:List UInt8):Lib.index s [47]=if (s.dropWhile (· != 47)).isEmpty then -1 else ((s.takeWhile (· != 47)).length:Int):=by
 induction s with
 |nil=>rfl
 |cons c s ih =>
  rw[Lib.index];by_cases hc:c=47
  ·subst hc;simp
  ·have h1:(c != 47)=true:=by simpa using hc
   have h2:([47]:List UInt8).isPrefixOf (c::s)=false:=by
    simp [List.isPrefixOf];exact fun e=>hc e.symm
   rw[h2,List.dropWhile_cons,List.takeWhile_cons,h1,ih];simp only[Cv,uP];by_cases he:(s.dropWhile (· != 47)).isEmpty=true
   ·simp [he]
   ·simp only[he];have:(((s.takeWhile (· != 47)).length:Int) == -1)=false:=by rw[jO];omega
    simp [this]
theorem cnq (s:List UInt8):Lib.cut s [47]=(s.takeWhile (· != 47),(s.dropWhile (· != 47)).tail,!(s.dropWhile (· != 47)).isEmpty):=by
 unfold Lib.cut;rw[chT];have hs:=(cgh (p:=(· != (47:UInt8))) (l:=s)).symm;by_cases he:(s.dropWhile (· != 47)).isEmpty=true
 ·have h0:s.dropWhile (· != 47)=[]:=by simpa using he
  rw[co he,cg (by decide),h0];rw[h0,ug] at hs;rw[← hs];rfl
 ·rw[cg he,co (by omega)];generalize s.dropWhile (· != 47)=d at *;generalize s.takeWhile (· != 47)=t at *;subst hs;have h1:(!d.isEmpty)=true:=by simpa using he
  rw[h1,ZJ];refine Prod.ext ?_ (Prod.ext ?_ rfl)
  ·simp
  ·simp only[Ud];rw[← zU,List.drop_left,List.drop_one]
theorem cfB (s:List UInt8):Lib.hasPrefix s [45]=kK s/\Lib.trimPrefix s [45]=uz s:=by
 have h1:Lib.hasPrefix s [45]=kK s:=by
  unfold Lib.hasPrefix kK;cases s with
  |nil=>rfl
  |cons c s=>simp [List.isPrefixOf];rw[YD];simp;exact eq_comm
 refine⟨h1,?_⟩;unfold Lib.trimPrefix uz;rw[h1];cases s with
 |nil=>simp
 |cons c s=>simp
theorem cbj (l:List UInt8) (w:World) :
 Calls Tryz.prog 91 #[str l,.string ⟨#[45]⟩] w (fun e w'=>e=.returned (.tuple #[str (uz l),.bool (kK l)])/\w=w'):=by
 refine(Tryz.strings_CutPrefix ⟨l.toArray⟩ ⟨#[45]⟩ w).mono ?_;rintro e w' ⟨rfl,rfl⟩;refine⟨?_,rfl⟩;have:=cfB l;show Ending.returned (.tuple #[.string ⟨(Lib.trimPrefix l [45]).toArray⟩,.bool (Lib.hasPrefix l [45])])=_;rw[this.1,this.2]
theorem com (l:List UInt8) (hl:l.length<=100000) (w:World) (hG:Gr w) :
 Calls Tryz.prog 92 #[str l,.string ⟨#[47]⟩] w (fun e w'=>e=.returned (.tuple #[str (l.takeWhile (· != 47)),str (l.dropWhile (· != 47)).tail,.bool (!(l.dropWhile (· != 47)).isEmpty)])/\∃ n,w'=w.drewN n):=by
 obtain⟨m,hm⟩:=hG.maxLen;refine(Tryz.strings_Cut ⟨l.toArray⟩ ⟨#[47]⟩ m w (by have:=Wl l hl (show 100000<=4294967280 by omega);omega) hm).mono ?_;rintro e w' ⟨rfl,hw⟩;refine⟨?_,hw⟩;have:=cnq l;show Ending.returned (.tuple #[.string ⟨(Lib.cut l [47]).1.toArray⟩,.string ⟨(Lib.cut l [47]).2.1.toArray⟩,.bool (Lib.cut l [47]).2.2])=_;rw[this]
def yv (w:World) (l:List UInt8) (e:Ending) (w':World):Prop :=
 ∃ v,e=.returned (.tuple #[v,.int .i64 (kG l).2])/\IsQ w' v (kG l).1/\Below w.heap.size w w'
theorem yv.err {w w':World}{l:List UInt8}{k:Int}(hk:kG l=(0,k)) (hb:Below w.heap.size w w'):yv w l (.returned (.tuple #[lo false 0 0,.int .i64 k])) w':=by
 refine⟨lo false 0 0,by rw[hk],?_,hb⟩;rw[hk];exact Num.low 0 rfl rfl kn (show 1<B by decide)
theorem uE {l:List UInt8}(hl:¬ 4000<l.length) (h:uF l=none):kG l=(0,4):=by unfold kG;rw[cg hl,h]
theorem KB {l:List UInt8}{r:Rat}(hl:¬ 4000<l.length) (h:uF l=some r):kG l=if ul r=l then (r,0) else (0,4):=by unfold kG;rw[cg hl,h]
theorem Jf (l:List UInt8):(uz l).length<=l.length:=by unfold uz;split<;>simp
theorem US (l:List UInt8):(uj l).length<=l.length:=by
 have h:=cQ List.length (cgh (p:=(· != (47:UInt8))) (l:=uz l));rw[kI] at h;have:=Jf l;unfold uj;omega
theorem UC (l:List UInt8):(jM l).length<=l.length+1:=by
 unfold jM;have h1:=Jf l;have h:=cQ List.length (cgh (p:=(· != (47:UInt8))) (l:=uz l));rw[kI] at h;split
 ·simp
 ·rw[List.length_tail];omega
theorem cnr {l:List UInt8}(h:uR l=true):∀ c∈l,kT c=true:=by
 unfold uR at h;rw[EL,List.all_eq_true] at h;exact h.2
theorem YW {l:List UInt8}{k:Nat}(h:uR l=true) (hl:l.length<=19*k):jB l<B^k :=
 cI (Wr l (cnr h)) (KY hl)
theorem YO {k:Nat}(hk:1<=k):1<B^k:=cI (show 1<B^1 by decide) (jY kn hk)
theorem cck {n k:Nat}(neg:Bool) (h:n<B^k) (hk:1<=k):Siz (CA neg n) k:=by
 have h4:=EU neg n;have h1:=YO hk;unfold Siz CA;rw[h4.1,h4.2];refine⟨?_,h1⟩;cases neg
 ·simpa using h
 ·simpa using h
theorem ckO {n k:Nat}(h:n<B^k) (hk:1<=k):Siz ((n:Nat):Rat) k:=by
 refine⟨?_,YO hk⟩;show ((n:Nat):Int).natAbs<B^k;simpa using h
theorem coW (l:List UInt8) (w:World) (hl:l.length<=100000) (hG:Gr w):Calls Tryz.prog 52 #[str l] w (yv w l):=by
 by_cases h4:4000<l.length
 ·have hr:kG l=(0,5):=by unfold kG;rw[co h4]
  have HR:=ca hr;have hi:(4000:Int)<(l.length:Int):=by omega
  clear hr h4 hG
  go_enter Tryz.func52,Tryz.ntmps52
  go_wp2_with fail;refine jw (v:=.tuple #[lo false 0 0,.int .i64 5]) (by simp [results,Tryz.results52,go_sem]) rfl ?_;exact yv.err HR.out (jV w _)
 ·have hi:¬ (4000:Int)<(l.length:Int):=by omega
  have HG:=ca hG;have H4:=ca h4;have HNA:=ca (fun W (hW:Below w.heap.size w W)=>Uh (uj l) W (by have:=US l;omega) (hG.below hW hG.size));have HNB:=ca (fun W (hW:Below w.heap.size w W)=>Uh (jM l) W (by have:=UC l;omega) (hG.below hW hG.size));have HCut:=ca (fun W (hW:Below w.heap.size w W)=>com (uz l) (by have:=Jf l;omega) W (hG.below hW hG.size));clear hG h4
  go_enter Tryz.func52,Tryz.ntmps52
  go_wp2_with fail;refine(cbj l _).mono ?_;rintro e w1 ⟨rfl,rfl⟩;go_wp2_with fail;obtain⟨W0,hW0,hb0,hz,hs⟩:=boxz w;rw[← hW0];clear hW0;have HZ:=ca hz;have HW0:=ca hb0;have hb0:=cw W0.heap.size W0;clear hz;clear hs;refine(HCut.out _ HW0.out).mono ?_;rintro e W2 ⟨rfl,q,rfl⟩;have HA2:Hid (Below W0.heap.size W0 (W0.drewN q)):=yx hb0;clear hb0;generalize W0.drewN q=W2 at *;by_cases hs:((uz l).dropWhile (· != 47)).isEmpty=true
  ·have hbe:jM l=[49]:=by unfold jM;rw[co hs]
   have HNB:=ca (fun W hW=>show Calls Tryz.prog 93 #[.string ⟨#[49]⟩] W (caW W (jM l)) from(by
    have:=HNB.out W hW;rw[show str (jM l)=.string ⟨#[49]⟩ from by rw[hbe]] at this;exact this))
   rw[hs];show _;rw[show (uz l).takeWhile (· != 47)=uj l from rfl];clear hs hbe;go_wp2_with fail;refine(HNA.out _ (cq HW0.out HA2.out)).mono ?_;rintro e W3 (⟨hok1,va,rfl,hva,hb⟩|⟨hok1,rfl,hb⟩)
   ·have HVA:=ca hva;have HO1:=ca hok1;have HA3:=ca (cq HA2.out hb);obtain⟨aa,al,ac,rfl,_⟩:=hva.form;clear hva hok1 hb HNA HA2;go_wp2_with fail;refine(HNB.out _ (cq HW0.out HA3.out)).mono ?_;rintro e W4 (⟨hok2,vb,rfl,hvb,hb⟩|⟨hok2,rfl,hb⟩)
    ·obtain⟨ba,bl,bc,rfl,_,hbz,_⟩:=hvb.form;have HVB:=ca hvb;have HVA:=ca (HVA.out.below hb (cb _));have HO2:=ca hok2;have HA4:=ca (cq HA3.out hb);by_cases hd0:jB (jM l)=0
     ·have hbl:bl=0:=hbz.2 hd0;have HD0:=ca hd0;subst hbl;clear hvb hok2 hb HNB HA3 hbz hd0;have hfin:=yv.err (uE H4.out (by unfold uF;rw[HO1.out,HO2.out,HD0.out];rfl)) (zE HW0.out HA4.out (cb _) (.bool false) (.int .u64 0) (.int .u64 0) (.pointer none));have HFin:=ca hfin
      (obtain⟨z0,z1,z2,z3,zf0,zf1,zf2,zf3⟩:=HZ.out.zed HA4.out)
      clear hfin;go_wp2_with fail;refine jw (v:=.tuple #[lo false 0 0,.int .i64 4]) (by simp [results,Tryz.results52,go_sem,z0,z1,z2,z3]) rfl ?_;exact HFin.out
     ·have hbl:(((bl:Nat):Int) == 0)=false:=by rw[jO];intro e;exact hd0 (hbz.1 (by omega))
      have hpar:uF l=some (CA (kK l) (jB (uj l))*((jB (jM l):Nat):Rat)⁻¹):=by
       unfold uF;rw[HO1.out,HO2.out,YP,YP,co (by simpa using hd0)]
      have HPar:=ca (KB H4.out hpar);have HWn:=ca (fun v W (hv:cu W v (jB (uj l)))=>(WR (kK l) v _ W hv).mono fun e W' h=>h.q (r:=CA (kK l) (jB (uj l))) (EU _ _).1 (EU _ _).2);have HWd:=ca (fun v W (hv:cu W v (jB (jM l)))=>(WR false v _ W hv).mono fun e W' h=>h.q (r:=((jB (jM l):Nat):Rat)) rfl rfl);have hdn:(((jB (jM l):Nat):Rat)).num≠0:=by
       show ((jB (jM l):Nat):Int)≠0;omega
      have HRc:=ca (fun v W (hv:IsQ W v ((jB (jM l):Nat):Rat))=>clO v _ W hv hdn);obtain⟨K,hK1,hK2,hK3⟩:∃ K:Nat,4001<=19*K/\(K:Int)<=1073741824/\((K+K:Nat):Int)<=1073741824:=⟨300,by omega,by omega,by omega⟩;have hz1:=cck (k:=K) (kK l) (YW HO1.out (by have:=US l;omega)) (by omega);have hz2:=ckO (k:=K) (YW HO2.out (by have:=UC l;omega)) (by omega);have hz3:=hz2.inv hdn;have HTm:=ca (fun v1 v2 W h1 h2 hG=>caM v1 v2 (CA (kK l) (jB (uj l))) ((jB (jM l):Nat):Rat)⁻¹ K W h1 h2 hz1 hz3 hK2 hG);have HTx:=ca (fun v W h=>cgJ v (CA (kK l) (jB (uj l))*((jB (jM l):Nat):Rat)⁻¹) (K+K) W h (hz1.mul hz3) hK3);clear hz1 hz2 hz3 hK1 hK2 hK3 hdn hpar hvb hok2 hb HNB HA3 hbz hd0;generalize CA (kK l) (jB (uj l))=qn at *;generalize hdv:((jB (jM l):Nat):Rat)=qd at *;go_wp2_with fail;refine(HWn.out _ _ HVA.out).mono ?_;rintro e W5 ⟨v1,rfl,hv1,hb⟩;have HV1:=ca hv1;have HVB:=ca (HVB.out.below hb (cb _));have HA5:=ca (cq HA4.out hb);obtain⟨_,_,_,_,rfl⟩:=hv1.form;clear hv1 hb HWn HA4 HVA hdv;go_wp2_with fail;refine(HWd.out _ _ HVB.out).mono ?_;rintro e W6 ⟨v2,rfl,hv2,hb⟩;have HV1:=ca (HV1.out.below hb (cb _));have HV2:=ca hv2;have HA6:=ca (cq HA5.out hb);obtain⟨_,_,_,_,rfl⟩:=hv2.form;clear hv2 hb HWd HA5 HVB;go_wp2_with fail;refine(HRc.out _ _ HV2.out).mono ?_;rintro e W7 ⟨v3,rfl,hv3,hb⟩;have HV1:=ca (HV1.out.below hb (cb _));have HV3:=ca hv3;have HA7:=ca (cq HA6.out hb);obtain⟨_,_,_,_,rfl⟩:=hv3.form;clear hv3 hb HRc HA6 HV2;go_wp2_with fail;refine(HTm.out _ _ _ HV1.out HV3.out (HG.out.below (cq HW0.out HA7.out) HG.out.size)).mono ?_;rintro e W8 ⟨v4,rfl,hv4,hb⟩;have HV4:=ca hv4
      have HA8:=ca (cq HA7.out hb);obtain⟨sx,ax,bx,px,rfl⟩:=hv4.form;clear hv4 hb HTm HA7 HV1 HV3;have hlt:w.heap.size<W8.heap.size:=kS W8 ⟨w.heap.size,0,none⟩ (HZ.out.below HA8.out (cb _)).cells.1;go_wp2_with fail;obtain⟨W9,hW,hb,⟨g0,g1,g2,g3⟩⟩:=ccP W8 (.bool sx) (u ax) (u bx) (.pointer px);rw[← hW];clear hW;have HV4:=ca (HV4.out.below hb (cb _));have HA9:=ca (cq HA8.out hb);have m1:¬ w.heap.size=W8.heap.size:=by omega
      have m2:¬ W8.heap.size=w.heap.size:=by omega
      clear hb HA8 hlt;generalize W8.heap.size=bx1 at *;refine(HTx.out _ _ HV4.out).mono ?_;rintro e W10 ⟨rfl,hb⟩
      (have hh:=Jk (b:=bx1) hb g0 g1 g2 g3;clear g0 g1 g2 g3;obtain⟨g0,g1,g2,g3⟩:=hh)
      have HV4:=ca (HV4.out.below hb (cb _));have HAx:=ca (cq HA9.out hb);clear hb HA9 HTx;by_cases hq:ul (qn*qd⁻¹)=l
      ·rw[hq];have hp:=HPar.out;rw[co hq] at hp;have hz:=HZ.out.below HAx.out (cb _);have hfin:=Gf.stored (a0:=.bool sx) (a1:=u ax) (a2:=u bx) (a3:=.pointer px) hz HV4.out (cq HW0.out HAx.out) (cb _);have HFin:=ca hfin;have HPv:=ca hp
       (obtain⟨z0,z1,z2,z3,zf0,zf1,zf2,zf3⟩:=HZ.out.zed HAx.out)
       clear hfin hz hq hp HPar;go_wp2_with fail;refine jw (v:=.tuple #[.agg #[.bool sx,u ax,u bx,.pointer px],.int .i64 0]) (by simp [results,Tryz.results52,go_sem,z0,z1,z2,z3]) rfl ?_;obtain⟨v,hv,hqq,hbb⟩:=HFin.out;injection hv with hv
       subst hv;refine⟨_,by rw[HPv.out],?_,hbb⟩;rw[HPv.out];exact hqq
      ·have hp:=HPar.out;rw[cg hq] at hp;have hfin:=yv.err hp (zE HW0.out HAx.out (cb _) (.bool false) (.int .u64 0) (.int .u64 0) (.pointer none));have HFin:=ca hfin
       (obtain⟨z0,z1,z2,z3,zf0,zf1,zf2,zf3⟩:=HZ.out.zed HAx.out)
       clear hfin hp HPar HV4;generalize ul (qn*qd⁻¹)=tq at *;have hqb:(tq == l)=false:=by simpa using hq
       clear hq;go_wp2_with fail;refine jw (v:=.tuple #[lo false 0 0,.int .i64 4]) (by simp [results,Tryz.results52,go_sem,z0,z1,z2,z3]) rfl ?_;exact HFin.out
    ·have HO2:=ca hok2;have HA4:=ca (cq HA3.out hb);clear hok2 hb HNB HA3 HVA;have hfin:=yv.err (uE H4.out (by unfold uF;rw[HO2.out,Bool.and_false,GT];rfl)) (zE HW0.out HA4.out (cb _) (.bool false) (.int .u64 0) (.int .u64 0) (.pointer none));have HFin:=ca hfin
     (obtain⟨z0,z1,z2,z3,zf0,zf1,zf2,zf3⟩:=HZ.out.zed HA4.out)
     clear hfin;go_wp2_with fail;refine jw (v:=.tuple #[lo false 0 0,.int .i64 4]) (by simp [results,Tryz.results52,go_sem,z0,z1,z2,z3]) rfl ?_;exact HFin.out
   ·have HO1:=ca hok1;have HA3:=ca (cq HA2.out hb);clear hok1 hb HNA HA2;go_wp2_with fail;refine(HNB.out _ (cq HW0.out HA3.out)).mono ?_;rintro e W4 (⟨hok2,vb,rfl,hvb,hb⟩|⟨hok2,rfl,hb⟩)
    ·obtain⟨ba,bl,bc,rfl,_⟩:=hvb.form;have HA4:=ca (cq HA3.out hb);clear hvb hok2 hb HNB HA3;have hfin:=yv.err (uE H4.out (by unfold uF;rw[HO1.out,GT,GT];rfl)) (zE HW0.out HA4.out (cb _) (.bool false) (.int .u64 0) (.int .u64 0) (.pointer none));have HFin:=ca hfin
     (obtain⟨z0,z1,z2,z3,zf0,zf1,zf2,zf3⟩:=HZ.out.zed HA4.out)
     clear hfin;go_wp2_with fail;refine jw (v:=.tuple #[lo false 0 0,.int .i64 4]) (by simp [results,Tryz.results52,go_sem,z0,z1,z2,z3]) rfl ?_;exact HFin.out
    ·have HA4:=ca (cq HA3.out hb);clear hok2 hb HNB HA3;have hfin:=yv.err (uE H4.out (by unfold uF;rw[HO1.out,GT,GT];rfl)) (zE HW0.out HA4.out (cb _) (.bool false) (.int .u64 0) (.int .u64 0) (.pointer none));have HFin:=ca hfin
     (obtain⟨z0,z1,z2,z3,zf0,zf1,zf2,zf3⟩:=HZ.out.zed HA4.out)
     clear hfin;go_wp2_with fail;refine jw (v:=.tuple #[lo false 0 0,.int .i64 4]) (by simp [results,Tryz.results52,go_sem,z0,z1,z2,z3]) rfl ?_;exact HFin.out
  ·have hs:((uz l).dropWhile (· != 47)).isEmpty=false:=by simpa using hs
   have hbe:((uz l).dropWhile (· != 47)).tail=jM l:=by unfold jM;rw[hs];rfl
   rw[hs,hbe,show (uz l).takeWhile (· != 47)=uj l from rfl];clear hs hbe;go_wp2_with fail;refine(HNA.out _ (cq HW0.out HA2.out)).mono ?_;rintro e W3 (⟨hok1,va,rfl,hva,hb⟩|⟨hok1,rfl,hb⟩)
   ·have HVA:=ca hva;have HO1:=ca hok1;have HA3:=ca (cq HA2.out hb);obtain⟨aa,al,ac,rfl,_⟩:=hva.form;clear hva hok1 hb HNA HA2;go_wp2_with fail;refine(HNB.out _ (cq HW0.out HA3.out)).mono ?_;rintro e W4 (⟨hok2,vb,rfl,hvb,hb⟩|⟨hok2,rfl,hb⟩)
    ·obtain⟨ba,bl,bc,rfl,_,hbz,_⟩:=hvb.form;have HVB:=ca hvb;have HVA:=ca (HVA.out.below hb (cb _));have HO2:=ca hok2;have HA4:=ca (cq HA3.out hb);by_cases hd0:jB (jM l)=0
     ·have hbl:bl=0:=hbz.2 hd0;have HD0:=ca hd0;subst hbl;clear hvb hok2 hb HNB HA3 hbz hd0;have hfin:=yv.err (uE H4.out (by unfold uF;rw[HO1.out,HO2.out,HD0.out];rfl)) (zE HW0.out HA4.out (cb _) (.bool false) (.int .u64 0) (.int .u64 0) (.pointer none));have HFin:=ca hfin
      (obtain⟨z0,z1,z2,z3,zf0,zf1,zf2,zf3⟩:=HZ.out.zed HA4.out)
      clear hfin;go_wp2_with fail;refine jw (v:=.tuple #[lo false 0 0,.int .i64 4]) (by simp [results,Tryz.results52,go_sem,z0,z1,z2,z3]) rfl ?_;exact HFin.out
     ·have hbl:(((bl:Nat):Int) == 0)=false:=by rw[jO];intro e;exact hd0 (hbz.1 (by omega))
      have hpar:uF l=some (CA (kK l) (jB (uj l))*((jB (jM l):Nat):Rat)⁻¹):=by
       unfold uF;rw[HO1.out,HO2.out,YP,YP,co (by simpa using hd0)]
      have HPar:=ca (KB H4.out hpar);have HWn:=ca (fun v W (hv:cu W v (jB (uj l)))=>(WR (kK l) v _ W hv).mono fun e W' h=>h.q (r:=CA (kK l) (jB (uj l))) (EU _ _).1 (EU _ _).2);have HWd:=ca (fun v W (hv:cu W v (jB (jM l)))=>(WR false v _ W hv).mono fun e W' h=>h.q (r:=((jB (jM l):Nat):Rat)) rfl rfl);have hdn:(((jB (jM l):Nat):Rat)).num≠0:=by
       show ((jB (jM l):Nat):Int)≠0;omega
      have HRc:=ca (fun v W (hv:IsQ W v ((jB (jM l):Nat):Rat))=>clO v _ W hv hdn);obtain⟨K,hK1,hK2,hK3⟩:∃ K:Nat,4001<=19*K/\(K:Int)<=1073741824/\((K+K:Nat):Int)<=1073741824:=⟨300,by omega,by omega,by omega⟩;have hz1:=cck (k:=K) (kK l) (YW HO1.out (by have:=US l;omega)) (by omega);have hz2:=ckO (k:=K) (YW HO2.out (by have:=UC l;omega)) (by omega);have hz3:=hz2.inv hdn;have HTm:=ca (fun v1 v2 W h1 h2 hG=>caM v1 v2 (CA (kK l) (jB (uj l))) ((jB (jM l):Nat):Rat)⁻¹ K W h1 h2 hz1 hz3 hK2 hG);have HTx:=ca (fun v W h=>cgJ v (CA (kK l) (jB (uj l))*((jB (jM l):Nat):Rat)⁻¹) (K+K) W h (hz1.mul hz3) hK3);clear hz1 hz2 hz3 hK1 hK2 hK3 hdn hpar hvb hok2 hb HNB HA3 hbz hd0;generalize CA (kK l) (jB (uj l))=qn at *;generalize hdv:((jB (jM l):Nat):Rat)=qd at *;go_wp2_with fail;refine(HWn.out _ _ HVA.out).mono ?_;rintro e W5 ⟨v1,rfl,hv1,hb⟩;have HV1:=ca hv1;have HVB:=ca (HVB.out.below hb (cb _));have HA5:=ca (cq HA4.out hb);obtain⟨_,_,_,_,rfl⟩:=hv1.form;clear hv1 hb HWn HA4 HVA hdv;go_wp2_with fail;refine(HWd.out _ _ HVB.out).mono ?_;rintro e W6 ⟨v2,rfl,hv2,hb⟩;have HV1:=ca (HV1.out.below hb (cb _));have HV2:=ca hv2;have HA6:=ca (cq HA5.out hb);obtain⟨_,_,_,_,rfl⟩:=hv2.form;clear hv2 hb HWd HA5 HVB;go_wp2_with fail;refine(HRc.out _ _ HV2.out).mono ?_;rintro e W7 ⟨v3,rfl,hv3,hb⟩;have HV1:=ca (HV1.out.below hb (cb _));have HV3:=ca hv3;have HA7:=ca (cq HA6.out hb);obtain⟨_,_,_,_,rfl⟩:=hv3.form;clear hv3 hb HRc HA6 HV2;go_wp2_with fail;refine(HTm.out _ _ _ HV1.out HV3.out (HG.out.below (cq HW0.out HA7.out) HG.out.size)).mono ?_;rintro e W8 ⟨v4,rfl,hv4,hb⟩;have HV4:=ca hv4
      have HA8:=ca (cq HA7.out hb);obtain⟨sx,ax,bx,px,rfl⟩:=hv4.form;clear hv4 hb HTm HA7 HV1 HV3;have hlt:w.heap.size<W8.heap.size:=kS W8 ⟨w.heap.size,0,none⟩ (HZ.out.below HA8.out (cb _)).cells.1;go_wp2_with fail;obtain⟨W9,hW,hb,⟨g0,g1,g2,g3⟩⟩:=ccP W8 (.bool sx) (u ax) (u bx) (.pointer px);rw[← hW];clear hW;have HV4:=ca (HV4.out.below hb (cb _));have HA9:=ca (cq HA8.out hb);have m1:¬ w.heap.size=W8.heap.size:=by omega
      have m2:¬ W8.heap.size=w.heap.size:=by omega
      clear hb HA8 hlt;generalize W8.heap.size=bx1 at *;refine(HTx.out _ _ HV4.out).mono ?_;rintro e W10 ⟨rfl,hb⟩
      (have hh:=Jk (b:=bx1) hb g0 g1 g2 g3;clear g0 g1 g2 g3;obtain⟨g0,g1,g2,g3⟩:=hh)
      have HV4:=ca (HV4.out.below hb (cb _));have HAx:=ca (cq HA9.out hb);clear hb HA9 HTx;by_cases hq:ul (qn*qd⁻¹)=l
      ·rw[hq];have hp:=HPar.out;rw[co hq] at hp;have hz:=HZ.out.below HAx.out (cb _);have hfin:=Gf.stored (a0:=.bool sx) (a1:=u ax) (a2:=u bx) (a3:=.pointer px) hz HV4.out (cq HW0.out HAx.out) (cb _);have HFin:=ca hfin;have HPv:=ca hp
       (obtain⟨z0,z1,z2,z3,zf0,zf1,zf2,zf3⟩:=HZ.out.zed HAx.out)
       clear hfin hz hq hp HPar;go_wp2_with fail;refine jw (v:=.tuple #[.agg #[.bool sx,u ax,u bx,.pointer px],.int .i64 0]) (by simp [results,Tryz.results52,go_sem,z0,z1,z2,z3]) rfl ?_;obtain⟨v,hv,hqq,hbb⟩:=HFin.out;injection hv with hv
       subst hv;refine⟨_,by rw[HPv.out],?_,hbb⟩;rw[HPv.out];exact hqq
      ·have hp:=HPar.out;rw[cg hq] at hp;have hfin:=yv.err hp (zE HW0.out HAx.out (cb _) (.bool false) (.int .u64 0) (.int .u64 0) (.pointer none));have HFin:=ca hfin
       (obtain⟨z0,z1,z2,z3,zf0,zf1,zf2,zf3⟩:=HZ.out.zed HAx.out)
       clear hfin hp HPar HV4;generalize ul (qn*qd⁻¹)=tq at *;have hqb:(tq == l)=false:=by simpa using hq
       clear hq;go_wp2_with fail;refine jw (v:=.tuple #[lo false 0 0,.int .i64 4]) (by simp [results,Tryz.results52,go_sem,z0,z1,z2,z3]) rfl ?_;exact HFin.out
    ·have HO2:=ca hok2;have HA4:=ca (cq HA3.out hb);clear hok2 hb HNB HA3 HVA;have hfin:=yv.err (uE H4.out (by unfold uF;rw[HO2.out,Bool.and_false,GT];rfl)) (zE HW0.out HA4.out (cb _) (.bool false) (.int .u64 0) (.int .u64 0) (.pointer none));have HFin:=ca hfin
     (obtain⟨z0,z1,z2,z3,zf0,zf1,zf2,zf3⟩:=HZ.out.zed HA4.out)
     clear hfin;go_wp2_with fail;refine jw (v:=.tuple #[lo false 0 0,.int .i64 4]) (by simp [results,Tryz.results52,go_sem,z0,z1,z2,z3]) rfl ?_;exact HFin.out
   ·have HO1:=ca hok1;have HA3:=ca (cq HA2.out hb);clear hok1 hb HNA HA2;go_wp2_with fail;refine(HNB.out _ (cq HW0.out HA3.out)).mono ?_;rintro e W4 (⟨hok2,vb,rfl,hvb,hb⟩|⟨hok2,rfl,hb⟩)
    ·obtain⟨ba,bl,bc,rfl,_⟩:=hvb.form;have HA4:=ca (cq HA3.out hb);clear hvb hok2 hb HNB HA3;have hfin:=yv.err (uE H4.out (by unfold uF;rw[HO1.out,GT,GT];rfl)) (zE HW0.out HA4.out (cb _) (.bool false) (.int .u64 0) (.int .u64 0) (.pointer none));have HFin:=ca hfin
     (obtain⟨z0,z1,z2,z3,zf0,zf1,zf2,zf3⟩:=HZ.out.zed HA4.out)
     clear hfin;go_wp2_with fail;refine jw (v:=.tuple #[lo false 0 0,.int .i64 4]) (by simp [results,Tryz.results52,go_sem,z0,z1,z2,z3]) rfl ?_;exact HFin.out
    ·have HA4:=ca (cq HA3.out hb);clear hok2 hb HNB HA3;have hfin:=yv.err (uE H4.out (by unfold uF;rw[HO1.out,GT,GT];rfl)) (zE HW0.out HA4.out (cb _) (.bool false) (.int .u64 0) (.int .u64 0) (.pointer none));have HFin:=ca hfin
     (obtain⟨z0,z1,z2,z3,zf0,zf1,zf2,zf3⟩:=HZ.out.zed HA4.out)
     clear hfin;go_wp2_with fail;refine jw (v:=.tuple #[lo false 0 0,.int .i64 4]) (by simp [results,Tryz.results52,go_sem,z0,z1,z2,z3]) rfl ?_;exact HFin.out
def IsS (w:World) (v:Value) (lo hi:Rat):Prop:=∃ s1 a1 b1 p1 s2 a2 b2 p2,v=.agg #[.bool s1,u a1,u b1,.pointer p1,.bool s2,u a2,u b2,.pointer p2]/\
 IsQ w (.agg #[.bool s1,u a1,u b1,.pointer p1]) lo/\IsQ w (.agg #[.bool s2,u a2,u b2,.pointer p2]) hi
theorem IsS.below {w w':World}{v:Value}{lo hi:Rat}{k:Nat}(h:IsS w v lo hi) (hb:Below k w w') (hk:w.heap.size<=k):IsS w' v lo hi:=by
 obtain⟨s1,a1,b1,p1,s2,a2,b2,p2,hv,h1,h2⟩:=h;exact⟨s1,a1,b1,p1,s2,a2,b2,p2,hv,h1.below hb hk,h2.below hb hk⟩
def cdc (w:World) (lo hi:Rat) (e:Ending) (w':World):Prop:=∃ v,e=.returned v/\IsS w' v lo hi/\Below w.heap.size w w'
def NBox (W:World) (R:Nat):Prop:=∃ (cs:Array Value) (t:TypeId) (fr:Nat×Nat),W.heap[R]?=some (.cells cs t fr)/\t≠31/\∀ x,cs[0]?=some x->∃ s,x=.bool s
theorem cu.other {W W':World}{R:Nat}{v:Value}{n:Nat}(hR:NBox W R) (h:cu W v n) (ho:jJ R W W'):cu W' v n:=by
 obtain⟨cs,t,fr,hb,ht,_⟩:=hR;obtain⟨xs,⟨⟨ao,c,rfl,h1,h2,hr⟩,ok,typ⟩,htr,hv⟩:=h;refine⟨xs,⟨⟨ao,c,rfl,h1,h2,fun hn=>?_⟩,ok,typ.other hb ht ho⟩,htr,hv⟩;obtain⟨b,off,rfl,row⟩:=hr hn;refine⟨b,off,rfl,ho.row ?_ row⟩;intro e;obtain⟨cs',fr',hc⟩:=typ ⟨b,off,none⟩ _ _ rfl hn;rw[show (⟨b,off,none⟩:Addr).block=R from e,hb] at hc;injection hc with hc
 injection hc with _ hc
 exact ht hc
theorem Num.other {W W':World}{R:Nat}{v:Value}{neg:Bool}{n d:Nat}(hR:NBox W R) (h:Num W v neg n d) (ho:jJ R W W'):Num W' v neg n d:=by
 cases h with
 |low l hv hd hn hdB=>exact .low l hv hd hn hdB
 |wide b x y hv hx hy h1 h2 hB h0 hd =>
  have hb:b≠R:=by
   intro e;subst e;obtain⟨_,_,_,rfl,_⟩:=h1.form;obtain⟨cs,t,fr,hb,_,hz⟩:=hR;rw[World.cell?,hb] at hx;obtain⟨s,e⟩:=hz _ hx;cases e
  exact .wide b x y hv ((ho.cell (p:=⟨b,0,none⟩) hb).trans hx) ((ho.cell (p:=⟨b,1,none⟩) hb).trans hy) (h1.other hR ho) (h2.other hR ho) ⟨hB.1,hB.2.to (ho.block b hb)⟩ h0 hd
theorem IsQ.other {W W':World}{R:Nat}{v:Value}{r:Rat}(hR:NBox W R) (h:IsQ W v r) (ho:jJ R W W'):IsQ W' v r:=Num.other hR h ho
theorem IsS.other {W W':World}{R:Nat}{v:Value}{lo hi:Rat}(hR:NBox W R) (h:IsS W v lo hi) (ho:jJ R W W'):IsS W' v lo hi:=by
 obtain⟨s1,a1,b1,p1,s2,a2,b2,p2,hv,h1,h2⟩:=h;exact⟨s1,a1,b1,p1,s2,a2,b2,p2,hv,Num.other hR h1 ho,Num.other hR h2 ho⟩
def kp (W:World) (b:Nat) (c0 c1 c2 c3 c4 c5 c6 c7:Value):Prop:=W.heap[b]?=some (.cells #[c0,c1,c2,c3,c4,c5,c6,c7] 36 (0,0))
def cly (W:World) (b:Nat):Prop:=kp W b (.bool false) (.int .u64 0) (.int .u64 0) (.pointer none) (.bool false) (.int .u64 0) (.int .u64 0) (.pointer none)
theorem kp.of_block {W W':World}{b:Nat}{c0 c1 c2 c3 c4 c5 c6 c7:Value}(h:kp W b c0 c1 c2 c3 c4 c5 c6 c7) (hb:W'.heap[b]?=W.heap[b]?):kp W' b c0 c1 c2 c3 c4 c5 c6 c7:=hb.trans h
theorem kp.lt {W:World}{b:Nat}{c0 c1 c2 c3 c4 c5 c6 c7:Value}(h:kp W b c0 c1 c2 c3 c4 c5 c6 c7):b<W.heap.size:=(Array.getElem?_eq_some_iff.1 h).1
theorem kp.below {W W':World}{b k:Nat}{c0 c1 c2 c3 c4 c5 c6 c7:Value}(h:kp W b c0 c1 c2 c3 c4 c5 c6 c7) (hb:Below k W W') (hk:W.heap.size<=k):kp W' b c0 c1 c2 c3 c4 c5 c6 c7 :=
 h.of_block (hb.block b (cI h.lt hk))
theorem kp.cells {W:World}{b:Nat}{c0 c1 c2 c3 c4 c5 c6 c7:Value}(h:kp W b c0 c1 c2 c3 c4 c5 c6 c7) :
 W.cell? ⟨b,0,none⟩=some c0/\W.cell? ⟨b,1,none⟩=some c1/\W.cell? ⟨b,2,none⟩=some c2/\W.cell? ⟨b,3,none⟩=some c3/\
 W.cell? ⟨b,4,none⟩=some c4/\W.cell? ⟨b,5,none⟩=some c5/\W.cell? ⟨b,6,none⟩=some c6/\W.cell? ⟨b,7,none⟩=some c7:=by
 unfold kp at h;simp [World.cell?,h]
theorem kp.frozen {W:World}{b:Nat}{c0 c1 c2 c3 c4 c5 c6 c7:Value}(h:kp W b c0 c1 c2 c3 c4 c5 c6 c7) (i:Nat):W.frozen? ⟨b,i,none⟩=false:=by
 unfold kp at h;simp [World.frozen?,h]
theorem kp.nbox {W:World}{b:Nat}{s:Bool}{c1 c2 c3 c4 c5 c6 c7:Value}(h:kp W b (.bool s) c1 c2 c3 c4 c5 c6 c7):NBox W b :=
 ⟨_,_,_,h,by decide,fun x hx=>⟨s,by simpa using hx.symm⟩⟩
theorem kp.new (w:World) (c0 c1 c2 c3 c4 c5 c6 c7:Value):kp (w.alloc (.cells #[c0,c1,c2,c3,c4,c5,c6,c7] 36)) w.heap.size c0 c1 c2 c3 c4 c5 c6 c7:=Gh w _
theorem uT {W:World}{b o:Nat}{v:Value}{cs:Array Value}{t:TypeId}(h:W.heap[b]?=some (.cells cs t (0,0))):(W.setCell ⟨b,o,none⟩ v).heap[b]?=some (.cells (cs.setIfInBounds o v) t (0,0)):=by
 simp only[World.setCell,cbW,co,h];rfl
theorem kp.setLow {W:World}{b:Nat}{c0 c1 c2 c3 c4 c5 c6 c7:Value}(h:kp W b c0 c1 c2 c3 c4 c5 c6 c7) (d0 d1 d2 d3:Value) :
 kp ((((W.setCell ⟨b,0,none⟩ d0).setCell ⟨b,1,none⟩ d1).setCell ⟨b,2,none⟩ d2).setCell ⟨b,3,none⟩ d3) b d0 d1 d2 d3 c4 c5 c6 c7:=by
 have:=uT (o:=3) (v:=d3) (uT (o:=2) (v:=d2) (uT (o:=1) (v:=d1) (uT (o:=0) (v:=d0) h)));exact this
theorem kp.setHigh {W:World}{b:Nat}{c0 c1 c2 c3 c4 c5 c6 c7:Value}(h:kp W b c0 c1 c2 c3 c4 c5 c6 c7) (d4 d5 d6 d7:Value) :
 kp ((((W.setCell ⟨b,4,none⟩ d4).setCell ⟨b,5,none⟩ d5).setCell ⟨b,6,none⟩ d6).setCell ⟨b,7,none⟩ d7) b c0 c1 c2 c3 d4 d5 d6 d7:=by
 have:=uT (o:=7) (v:=d7) (uT (o:=6) (v:=d6) (uT (o:=5) (v:=d5) (uT (o:=4) (v:=d4) h)));exact this
theorem cgS (W:World) (b i:Nat) (d0 d1 d2 d3:Value):jJ b W ((((W.setCell ⟨b,i,none⟩ d0).setCell ⟨b,i+1,none⟩ d1).setCell ⟨b,i+2,none⟩ d2).setCell ⟨b,i+3,none⟩ d3) :=
 ((((jJ.refl b W).set i d0).set (i+1) d1).set (i+2) d2).set (i+3) d3
theorem only8 (W:World) (b:Nat) (d0 d1 d2 d3 d4 d5 d6 d7:Value):jJ b W ((((((((W.setCell ⟨b,0,none⟩ d0).setCell ⟨b,1,none⟩ d1).setCell ⟨b,2,none⟩ d2).setCell ⟨b,3,none⟩ d3).setCell ⟨b,4,none⟩ d4).setCell ⟨b,5,none⟩ d5).setCell ⟨b,6,none⟩ d6).setCell ⟨b,7,none⟩ d7) :=
 ((((((((jJ.refl b W).set 0 d0).set 1 d1).set 2 d2).set 3 d3).set 4 d4).set 5 d5).set 6 d6).set 7 d7
theorem cdc.stored {w W:World}{R:Nat}{v:Value}{lo hi:Rat}(hR:NBox W R) (h:IsS W v lo hi) (hb:Below w.heap.size w W) (hw:w.heap.size<=R) (d0 d1 d2 d3 d4 d5 d6 d7:Value) :
 cdc w lo hi (.returned v) ((((((((W.setCell ⟨R,0,none⟩ d0).setCell ⟨R,1,none⟩ d1).setCell ⟨R,2,none⟩ d2).setCell ⟨R,3,none⟩ d3).setCell ⟨R,4,none⟩ d4).setCell ⟨R,5,none⟩ d5).setCell ⟨R,6,none⟩ d6).setCell ⟨R,7,none⟩ d7) :=
 ⟨v,rfl,h.other hR (only8 W R d0 d1 d2 d3 d4 d5 d6 d7),hb.trans ((only8 W R d0 d1 d2 d3 d4 d5 d6 d7).below hw)⟩
def QAt (w:World) (b i:Nat) (v:Value):Prop:=∃ s a c p,v=.agg #[.bool s,u a,u c,.pointer p]/\
 w.cell? ⟨b,i,none⟩=some (.bool s)/\w.cell? ⟨b,i+1,none⟩=some (u a)/\w.cell? ⟨b,i+2,none⟩=some (u c)/\w.cell? ⟨b,i+3,none⟩=some (.pointer p)
theorem QAt.lt {w:World}{b i:Nat}{v:Value}(h:QAt w b i v):b<w.heap.size:=by
 obtain⟨_,_,_,_,_,h,_⟩:=h;exact kS w _ h
theorem QAt.below {w w':World}{b i k:Nat}{v:Value}(h:QAt w b i v) (hb:Below k w w') (hk:w.heap.size<=k):QAt w' b i v:=by
 have hlt:=cI h.lt hk;obtain⟨s,a,c,p,hv,h0,h1,h2,h3⟩:=h;exact⟨s,a,c,p,hv,(hb.cell (p:=⟨b,i,none⟩) hlt).trans h0,(hb.cell (p:=⟨b,i+1,none⟩) hlt).trans h1,(hb.cell (p:=⟨b,i+2,none⟩) hlt).trans h2,(hb.cell (p:=⟨b,i+3,none⟩) hlt).trans h3⟩
def QSl (w:World) (v:Value) (rs:List Rat):Prop:=∃ ao cap,v=.slice ao rs.length cap/\rs.length<=cap/\(cap:Int)<=9223372036854775807/\
 (0<rs.length->∃ b off,ao=some ⟨b,off,none⟩/\∀ i,i<rs.length->∃ x,QAt w b (off+i*4) x/\IsQ w x (rs[i]?.getD 0))
def Ej (r:Rat) (rs:List Rat):Rat:=rs.foldl (fun a x=>if x<a then x else a) r
def yN (r:Rat) (rs:List Rat):Rat:=rs.foldl (fun a x=>if a<x then x else a) r
theorem cjb (r:Rat) (rs:List Rat) (x:Rat):Ej r (rs++[x])=if x<Ej r rs then x else Ej r rs:=by unfold Ej;rw[List.foldl_append];rfl
theorem chG (r:Rat) (rs:List Rat) (x:Rat):yN r (rs++[x])=if yN r rs<x then x else yN r rs:=by unfold yN;rw[List.foldl_append];rfl
theorem cer (r:Rat) (rs:List Rat):Ej r rs=r\/Ej r rs∈rs:=by
 induction rs generalizing r with
 |nil=>exact .inl rfl
 |cons x rs ih =>
  show Ej (if x<r then x else r) rs=r\/_;rcases ih (if x<r then x else r) with h|h
  ·rw[show Ej r (x::rs)=Ej (if x<r then x else r) rs from rfl,h];split
   ·exact .inr (by simp)
   ·exact .inl rfl
  ·exact .inr (uL _ h)
theorem cca (r:Rat) (rs:List Rat):yN r rs=r\/yN r rs∈rs:=by
 induction rs generalizing r with
 |nil=>exact .inl rfl
 |cons x rs ih =>
  show yN (if r<x then x else r) rs=r\/_;rcases ih (if r<x then x else r) with h|h
  ·rw[show yN r (x::rs)=yN (if r<x then x else r) rs from rfl,h];split
   ·exact .inr (by simp)
   ·exact .inl rfl
  ·exact .inr (uL _ h)
theorem Zo {a b:Rat}(h:a<b):¬ b<a:=Rat.not_lt.2 (Rat.le_of_lt h)
def ArRel (w:World) (n0:Nat) (r:Rat) (rs:List Rat) (i:Value) (wr:World):Prop :=
 ∃ k s1 a1 b1 p1 s2 a2 b2 p2,i=.int .i64 ((k:Nat):Int)/\k<=rs.length/\kp wr (n0+1+1) (.bool s1) (u a1) (u b1) (.pointer p1) (.bool s2) (u a2) (u b2) (.pointer p2)/\
  IsQ w (.agg #[.bool s1,u a1,u b1,.pointer p1]) (Ej r (rs.take k))/\IsQ w (.agg #[.bool s2,u a2,u b2,.pointer p2]) (yN r (rs.take k))/\
  cly wr (n0+1)/\Below w.heap.size w wr
set_option maxHeartbeats 1000000 in
theorem ciL (v sl:Value) (r:Rat) (rs:List Rat) (k:Nat) (w:World) (h:IsQ w v r) (hs:QSl w sl rs) (z:Siz r k) (zs:∀ x∈rs,Siz x k) (hk:(k:Int)<=1073741824) (hl:(rs.length:Int)<=1048576) :
 Calls Tryz.prog 97 #[v,sl] w (cdc w (Ej r rs) (yN r rs)):=by
 have HQ:=ca h;have hzl:∀ j,Siz (Ej r (rs.take j)) k:=fun j=>by
  rcases cer r (rs.take j) with e|e
  ·rw[e];exact z
  ·exact zs _ (Wo e)
 have hzh:∀ j,Siz (yN r (rs.take j)) k:=fun j=>by
  rcases cca r (rs.take j) with e|e
  ·rw[e];exact z
  ·exact zs _ (Wo e)
 have HZL:=ca hzl;have HZH:=ca hzh;have HZS:=ca zs;obtain⟨s0,a0,b0,p0,rfl⟩:=h.form;obtain⟨ao,cap,rfl,hc1,hc2,hr⟩:=hs;have HR:=ca hr;clear h hr hzl hzh zs z
 go_enter Tryz.func97,Tryz.ntmps97
 go_wp2_with fail;have hb1:=jV w (.cells #[.bool s0,u a0,u b0,.pointer p0] 34);have hz1:=kp.new (w.alloc (.cells #[.bool s0,u a0,u b0,.pointer p0] 34)) (.bool false) (.int .u64 0) (.int .u64 0) (.pointer none) (.bool false) (.int .u64 0) (.int .u64 0) (.pointer none);have hs1:(w.alloc (.cells #[.bool s0,u a0,u b0,.pointer p0] 34)).heap.size=w.heap.size+1:=Gc ..;rw[hs1] at hz1;have hb2:=jV (w.alloc (.cells #[.bool s0,u a0,u b0,.pointer p0] 34)) (.cells #[.bool false,.int .u64 0,.int .u64 0,.pointer none,.bool false,.int .u64 0,.int .u64 0,.pointer none] 36);have hs2:((w.alloc (.cells #[.bool s0,u a0,u b0,.pointer p0] 34)).alloc (.cells #[.bool false,.int .u64 0,.int .u64 0,.pointer none,.bool false,.int .u64 0,.int .u64 0,.pointer none] 36)).heap.size=w.heap.size+1+1:=by rw[Gc,hs1]
 have hb12:=cq hb1 hb2;obtain⟨W1,hW1⟩:∃ W1,(w.alloc (.cells #[.bool s0,u a0,u b0,.pointer p0] 34)).alloc (.cells #[.bool false,.int .u64 0,.int .u64 0,.pointer none,.bool false,.int .u64 0,.int .u64 0,.pointer none] 36)=W1:=⟨_,rfl⟩;rw[hW1] at hz1 hs2 hb12 ⊢;have hb3:=jV W1 (.cells #[.bool s0,u a0,u b0,.pointer p0,.bool s0,u a0,u b0,.pointer p0] 36);have hx:=kp.new W1 (.bool s0) (u a0) (u b0) (.pointer p0) (.bool s0) (u a0) (u b0) (.pointer p0);rw[hs2] at hx;have H0:Hid (ArRel w w.heap.size r rs (.int .i64 0) (W1.alloc (.cells #[.bool s0,u a0,u b0,.pointer p0,.bool s0,u a0,u b0,.pointer p0] 36))):=by
  refine⟨0,s0,a0,b0,p0,s0,a0,b0,p0,rfl,ju _,hx,HQ.out,HQ.out,?_,cq hb12 hb3⟩;exact kp.below hz1 hb3 (cb _)
 clear hW1 hb1 hb2 hb3 hb12 hz1 hs1 hs2 hx;generalize W1.alloc (.cells #[.bool s0,u a0,u b0,.pointer p0,.bool s0,u a0,u b0,.pointer p0] 36)=W2 at *
 go_loopw [13] (fun i wr=>Hid (ArRel w w.heap.size r rs i wr)) (fun i _=>rs.length-(intOf i).toNat)
 case atStart=>exact H0
 case round =>
  clear H0 HQ;obtain⟨j,s1,a1,b1,p1,s2,a2,b2,p2,rfl,hj,hX,hQ1,hQ2,hZ,hB⟩:=hrel.out;clear hrel;by_cases hlt:j<rs.length
  ·obtain⟨b,off,rfl,hel⟩:=HR.out (by omega);obtain⟨x,hxat,hxq⟩:=hel j hlt;have hsn:rs.take (j+1)=rs.take j++[rs[j]?.getD 0]:=by
    rw[cbF hlt,kb hlt];rfl
   have hzx:=HZS.out (rs[j]?.getD 0) (by rw[kb hlt];exact Yv hlt);have e1:=cjb r (rs.take j) (rs[j]?.getD 0);have e2:=chG r (rs.take j) (rs[j]?.getD 0);rw[← hsn] at e1 e2;have zl:=HZL.out j;have zh:=HZH.out j;generalize rs[j]?.getD 0=t at *;have hxw:=hxat.below hB (cb _);obtain⟨sx,ax,bx,px,rfl,k0,k1,k2,k3⟩:=hxw;have HC:=ca (fun s a b p m W (hm:IsQ w (.agg #[.bool s,u a,u b,.pointer p]) m) (zm:Siz m k) (hW:Below w.heap.size w W)=>clX _ _ t m k W (hxq.below hW (cb _)) (hm.below hW (cb _)) hzx zm hk);have HX:=ca hX;have HZ:=ca hZ;have HB:=ca hB;have HQ1:=ca hQ1;have HQ2:=ca hQ2;have HQx:=ca hxq;have E1:=ca e1;have E2:=ca e2;have Zl:=ca zl;have Zh:=ca zh;clear hX hZ hB hQ1 hQ2 hxat hxq e1 e2 zl zh hzx hsn hel HR HZL HZH HZS;generalize Ej r (rs.take j)=lo at *;generalize yN r (rs.take j)=hi at *;obtain⟨c0,c1,c2,c3,c4,c5,c6,c7⟩:=HX.out.cells;have ltz:w.heap.size+1+1<wr.heap.size:=HX.out.lt;go_wp2_with fail;obtain⟨W3,hW,hb,⟨g0,g1,g2,g3⟩⟩:=ccP wr (.bool sx) (u ax) (u bx) (.pointer px);rw[← hW];clear hW;have HX:=ca (HX.out.below hb (cb _));have HZ:=ca (kp.below HZ.out hb (cb _));have HB:=ca (cq HB.out hb);have m1:¬ wr.heap.size=w.heap.size+1+1:=by omega
   have m2:¬ w.heap.size+1+1=wr.heap.size:=by omega
   have n5:w.heap.size+1≠w.heap.size+1+1:=by omega
   clear c0 c1 c2 c3 c4 c5 c6 c7;clear hb ltz k0 k1 k2 k3;generalize wr.heap.size=bX at *;refine(HC.out s1 a1 b1 p1 lo W3 HQ1.out Zl.out HB.out).mono ?_;rintro e W4 ⟨rfl,hb⟩
   (have hh:=Jk (b:=bX) hb g0 g1 g2 g3;clear g0 g1 g2 g3;obtain⟨g0,g1,g2,g3⟩:=hh)
   have HX:=ca (HX.out.below hb (cb _));have HZ:=ca (kp.below HZ.out hb (cb _));have HB:=ca (cq HB.out hb);clear hb;obtain⟨c0,c1,c2,c3,c4,c5,c6,c7⟩:=HX.out.cells;have zf0:=HX.out.frozen 0;have zf1:=HX.out.frozen 1;have zf2:=HX.out.frozen 2;have zf3:=HX.out.frozen 3;have zf4:=HX.out.frozen 4;have zf5:=HX.out.frozen 5;have zf6:=HX.out.frozen 6;have zf7:=HX.out.frozen 7;by_cases hcl:t<lo
   ·have hcn:jk t lo<0:=by unfold jk;rw[co hcl];decide
    have H1:=ca hcl;clear hcl;generalize jk t lo=c at *;go_wp2_with fail;have hX':=HX.out.setLow (.bool sx) (u ax) (u bx) (.pointer px);have hO':=cgS W4 (w.heap.size+1+1) 0 (.bool sx) (u ax) (u bx) (.pointer px);have hZ':cly _ (w.heap.size+1):=kp.of_block HZ.out (hO'.block (w.heap.size+1) n5);have hB':=HB.out.trans (hO'.below (show w.heap.size<=w.heap.size+1+1 by omega));have i0:=(hO'.cell (p:=⟨bX,0,none⟩) m1).trans g0;have i1:=(hO'.cell (p:=⟨bX,1,none⟩) m1).trans g1;have i2:=(hO'.cell (p:=⟨bX,2,none⟩) m1).trans g2;have i3:=(hO'.cell (p:=⟨bX,3,none⟩) m1).trans g3;clear g0 g1 g2 g3 HX HZ HB hO';clear c0 c1 c2 c3 c4 c5 c6 c7;clear zf0 zf1 zf2 zf3 zf4 zf5 zf6 zf7;obtain⟨W5,hW5⟩:∃ W5,(((W4.setCell ⟨w.heap.size+1+1,0,none⟩ (.bool sx)).setCell ⟨w.heap.size+1+1,1,none⟩ (u ax)).setCell ⟨w.heap.size+1+1,2,none⟩ (u bx)).setCell ⟨w.heap.size+1+1,3,none⟩ (.pointer px)=W5:=⟨_,rfl⟩;simp only[je] at hZ' hB' i0 i1 i2 i3;rw[hW5] at hX' hZ' hB' i0 i1 i2 i3 ⊢;have HX:=ca hX';have HZ:=ca hZ';have HB:=ca hB';have g0:=i0;have g1:=i1;have g2:=i2;have g3:=i3;clear hX' hZ' hB' hW5 i0 i1 i2 i3;refine(HC.out s2 a2 b2 p2 hi W5 HQ2.out Zh.out HB.out).mono ?_;rintro e W6 ⟨rfl,hb⟩
    (have hh:=Jk (b:=bX) hb g0 g1 g2 g3;clear g0 g1 g2 g3;obtain⟨g0,g1,g2,g3⟩:=hh)
    have HX:=ca (HX.out.below hb (cb _));have HZ:=ca (kp.below HZ.out hb (cb _));have HB:=ca (cq HB.out hb);clear hb HC;obtain⟨c0,c1,c2,c3,c4,c5,c6,c7⟩:=HX.out.cells;have zf0:=HX.out.frozen 0;have zf1:=HX.out.frozen 1;have zf2:=HX.out.frozen 2;have zf3:=HX.out.frozen 3;have zf4:=HX.out.frozen 4;have zf5:=HX.out.frozen 5;have zf6:=HX.out.frozen 6;have zf7:=HX.out.frozen 7;by_cases hch:hi<t
    ·have hcn:(0:Int)<jk t hi:=by unfold jk;rw[cg (Zo hch),co hch];decide
     have H2:=ca hch;have HX':=ca (HX.out.setHigh (.bool sx) (u ax) (u bx) (.pointer px));have HZ':=ca (kp.of_block HZ.out ((cgS W6 (w.heap.size+1+1) 4 (.bool sx) (u ax) (u bx) (.pointer px)).block (w.heap.size+1) n5));have HB':=ca (HB.out.trans ((cgS W6 (w.heap.size+1+1) 4 (.bool sx) (u ax) (u bx) (.pointer px)).below (by omega)));clear HX HZ HB hch;have HX:=HX';have HZ:=HZ';have HB:=HB';clear HX' HZ' HB';generalize jk t hi=cc at *;go_wp2_with fail
     go_roundw
     case rel=>exact⟨j+1,sx,ax,bx,px,sx,ax,bx,px,by go_num,by omega,HX.out,by rw[E1.out,co H1.out];exact HQx.out,by rw[E2.out,co H2.out];exact HQx.out,HZ.out,HB.out⟩
     case measure=>simp [intOf];omega
    ·have hcn:¬ (0:Int)<jk t hi:=by unfold jk;rw[cg hch];split<;>decide
     have H2:=ca hch;clear hch;generalize jk t hi=cc at *;go_wp2_with fail
     go_roundw
     case rel=>exact⟨j+1,sx,ax,bx,px,s2,a2,b2,p2,by go_num,by omega,HX.out,by rw[E1.out,co H1.out];exact HQx.out,by rw[E2.out,cg H2.out];exact HQ2.out,HZ.out,HB.out⟩
     case measure=>simp [intOf];omega
   ·have hcn:¬ jk t lo<0:=by unfold jk;rw[cg hcl];split<;>decide
    have H1:=ca hcl;clear hcl;generalize jk t lo=c at *;go_wp2_with fail;clear c0 c1 c2 c3 c4 c5 c6 c7;clear zf0 zf1 zf2 zf3 zf4 zf5 zf6 zf7;refine(HC.out s2 a2 b2 p2 hi W4 HQ2.out Zh.out HB.out).mono ?_;rintro e W6 ⟨rfl,hb⟩
    (have hh:=Jk (b:=bX) hb g0 g1 g2 g3;clear g0 g1 g2 g3;obtain⟨g0,g1,g2,g3⟩:=hh)
    have HX:=ca (HX.out.below hb (cb _));have HZ:=ca (kp.below HZ.out hb (cb _));have HB:=ca (cq HB.out hb);clear hb HC;obtain⟨c0,c1,c2,c3,c4,c5,c6,c7⟩:=HX.out.cells;have zf0:=HX.out.frozen 0;have zf1:=HX.out.frozen 1;have zf2:=HX.out.frozen 2;have zf3:=HX.out.frozen 3;have zf4:=HX.out.frozen 4;have zf5:=HX.out.frozen 5;have zf6:=HX.out.frozen 6;have zf7:=HX.out.frozen 7;by_cases hch:hi<t
    ·have hcn:(0:Int)<jk t hi:=by unfold jk;rw[cg (Zo hch),co hch];decide
     have H2:=ca hch;have HX':=ca (HX.out.setHigh (.bool sx) (u ax) (u bx) (.pointer px));have HZ':=ca (kp.of_block HZ.out ((cgS W6 (w.heap.size+1+1) 4 (.bool sx) (u ax) (u bx) (.pointer px)).block (w.heap.size+1) n5));have HB':=ca (HB.out.trans ((cgS W6 (w.heap.size+1+1) 4 (.bool sx) (u ax) (u bx) (.pointer px)).below (by omega)));clear HX HZ HB hch;have HX:=HX';have HZ:=HZ';have HB:=HB';clear HX' HZ' HB';generalize jk t hi=cc at *;go_wp2_with fail
     go_roundw
     case rel=>exact⟨j+1,s1,a1,b1,p1,sx,ax,bx,px,by go_num,by omega,HX.out,by rw[E1.out,cg H1.out];exact HQ1.out,by rw[E2.out,co H2.out];exact HQx.out,HZ.out,HB.out⟩
     case measure=>simp [intOf];omega
    ·have hcn:¬ (0:Int)<jk t hi:=by unfold jk;rw[cg hch];split<;>decide
     have H2:=ca hch;clear hch;generalize jk t hi=cc at *;go_wp2_with fail
     go_roundw
     case rel=>exact⟨j+1,s1,a1,b1,p1,s2,a2,b2,p2,by go_num,by omega,HX.out,by rw[E1.out,cg H1.out];exact HQ1.out,by rw[E2.out,cg H2.out];exact HQ2.out,HZ.out,HB.out⟩
     case measure=>simp [intOf];omega
  ·obtain rfl:j=rs.length:=by omega
   have hS:IsS w (.agg #[.bool s1,u a1,u b1,.pointer p1,.bool s2,u a2,u b2,.pointer p2]) (Ej r rs) (yN r rs):=by
    rw[yC] at hQ1 hQ2;exact⟨s1,a1,b1,p1,s2,a2,b2,p2,rfl,hQ1,hQ2⟩
   have hfin:=cdc.stored (kp.nbox hZ) (hS.below hB (cb _)) hB (show w.heap.size<=w.heap.size+1 by omega) (.bool s1) (u a1) (u b1) (.pointer p1) (.bool s2) (u a2) (u b2) (.pointer p2);have HFin:=ca hfin;obtain⟨c0,c1,c2,c3,c4,c5,c6,c7⟩:=hX.cells;obtain⟨z0,z1,z2,z3,z4,z5,z6,z7⟩:=kp.cells hZ;have zf0:=kp.frozen hZ 0;have zf1:=kp.frozen hZ 1;have zf2:=kp.frozen hZ 2;have zf3:=kp.frozen hZ 3;have zf4:=kp.frozen hZ 4;have zf5:=kp.frozen hZ 5;have zf6:=kp.frozen hZ 6;have zf7:=kp.frozen hZ 7;have n6:¬ w.heap.size+1=w.heap.size+1+1:=by omega
   have n7:¬ w.heap.size+1+1=w.heap.size+1:=by omega
   clear hfin hS hQ1 hQ2 hX hZ hB hlt;go_wp2_with fail;refine jw (v:=.agg #[.bool s1,u a1,u b1,.pointer p1,.bool s2,u a2,u b2,.pointer p2]) (by simp [results,Tryz.results97,go_sem,z0,z1,z2,z3,z4,z5,z6,z7]) rfl ?_;exact HFin.out
theorem qsl1 (w:World) (s:Bool) (a b:Nat) (p:Option Addr) (r:Rat) (h:IsQ w (.agg #[.bool s,u a,u b,.pointer p]) r) :
 QSl (w.alloc (.cells #[.bool s,u a,u b,.pointer p] 34)) (.slice (some ⟨w.heap.size,0,none⟩) 1 1) [r]:=by
 have hb:=jV w (.cells #[.bool s,u a,u b,.pointer p] 34);refine⟨_,1,rfl,cb _,by decide,fun _=>⟨w.heap.size,0,rfl,fun i hi=>?_⟩⟩;have:i=0:=by simpa using hi
 subst this;refine⟨_,⟨s,a,b,p,rfl,?_,?_,?_,?_⟩,h.below hb (cb _)⟩
 all_goals exact ZX ..
theorem box8z (w:World) (c0 c1 c2 c3 c4 c5 c6 c7:Value):∃ W,(w.alloc (.cells #[c0,c1,c2,c3,c4,c5,c6,c7] 36)).alloc (.cells #[.bool false,.int .u64 0,.int .u64 0,.pointer none,.bool false,.int .u64 0,.int .u64 0,.pointer none] 36)=W/\
 Below w.heap.size w W/\kp W w.heap.size c0 c1 c2 c3 c4 c5 c6 c7/\cly W (w.heap.size+1)/\W.heap.size=w.heap.size+1+1:=by
 have hb1:=jV w (.cells #[c0,c1,c2,c3,c4,c5,c6,c7] 36);have h1:=kp.new w c0 c1 c2 c3 c4 c5 c6 c7;have hs1:(w.alloc (.cells #[c0,c1,c2,c3,c4,c5,c6,c7] 36)).heap.size=w.heap.size+1:=Gc ..;generalize w.alloc (.cells #[c0,c1,c2,c3,c4,c5,c6,c7] 36)=W1 at *;have hb2:=jV W1 (.cells #[.bool false,.int .u64 0,.int .u64 0,.pointer none,.bool false,.int .u64 0,.int .u64 0,.pointer none] 36);have h2:=kp.new W1 (.bool false) (.int .u64 0) (.int .u64 0) (.pointer none) (.bool false) (.int .u64 0) (.int .u64 0) (.pointer none);rw[hs1] at h2;exact⟨_,rfl,cq hb1 hb2,h1.below hb2 (cb _),h2,by rw[Gc,hs1]⟩
theorem ccm (v:Value) (lo hi:Rat) (k:Nat) (w:World) (h:IsS w v lo hi) (z1:Siz lo k) (z2:Siz hi k) (hk:(k:Int)<=1073741824) :
 Calls Tryz.prog 56 #[v] w (cdc w (Ej lo [hi]) (yN lo [hi])):=by
 obtain⟨s1,a1,b1,p1,s2,a2,b2,p2,rfl,h1,h2⟩:=h;have HA:=ca (fun sl W (hW:Below w.heap.size w W) (hs:QSl W sl [hi])=>ciL _ sl lo [hi] k W (h1.below hW (cb _)) hs z1 (by intro x hx;simp at hx;subst hx;exact z2) hk (by simp));have H2:=ca h2;clear h1 h2 z1 z2 hk
 go_enter Tryz.func56,Tryz.ntmps56
 go_wp2_with fail;obtain⟨W0,hW0,hb0,_,hz,hs⟩:=box8z w (.bool s1) (u a1) (u b1) (.pointer p1) (.bool s2) (u a2) (u b2) (.pointer p2);rw[hW0];have hb1:=jV W0 (.cells #[.bool s2,u a2,u b2,.pointer p2] 34);have hq:=qsl1 W0 s2 a2 b2 p2 hi (H2.out.below hb0 (cb _));rw[hs] at hq;refine(HA.out _ _ (cq hb0 hb1) hq).mono ?_;rintro e W9 ⟨v,rfl,hv,hb⟩;have hb9:=cq (cq hb0 hb1) hb;have hz9:cly W9 (w.heap.size+1):=kp.below (kp.below hz hb1 (cb _)) hb (cb _);have HB9:=ca hb9;clear hb0 hb1 hq hz hs hW0 hb9 HA
 (have hv':=hv;obtain⟨t1,d1,e1,q1,t2,d2,e2,q2,rfl,_,_⟩:=hv';have HFin:=ca (cdc.stored (kp.nbox hz9) hv HB9.out (by omega) (.bool t1) (u d1) (u e1) (.pointer q1) (.bool t2) (u d2) (u e2) (.pointer q2));(obtain⟨z0,z1,z2,z3,z4,z5,z6,z7⟩:=kp.cells hz9;have zf0:=kp.frozen hz9 0;have zf1:=kp.frozen hz9 1;have zf2:=kp.frozen hz9 2;have zf3:=kp.frozen hz9 3;have zf4:=kp.frozen hz9 4;have zf5:=kp.frozen hz9 5;have zf6:=kp.frozen hz9 6;have zf7:=kp.frozen hz9 7);clear hv hz9;clear hb;go_wp2_with fail;refine jw (v:=.agg #[.bool t1,u d1,u e1,.pointer q1,.bool t2,u d2,u e2,.pointer q2]) (by simp [results,Tryz.results56,go_sem,z0,z1,z2,z3,z4,z5,z6,z7]) rfl ?_;exact HFin.out)
theorem cgI {r s:Rat}:jk r s<=0↔r<=s:=by
 unfold jk;by_cases h1:r<s
 ·rw[co h1];exact⟨fun _=>Rat.le_of_lt h1,fun _=>by decide⟩
 ·rw[cg h1];by_cases h2:s<r
  ·rw[co h2];exact⟨fun h=>absurd h (by decide),fun h=>absurd h2 (Rat.not_lt.2 h)⟩
  ·rw[cg h2];exact⟨fun _=>Rat.not_lt.1 h2,fun _=>by decide⟩
theorem cmZ {r:Rat}{rs:List Rat}{k:Nat}(z:Siz r k) (zs:∀ x∈rs,Siz x k):Siz (Ej r rs) k:=by
 rcases cer r rs with e|e
 ·rw[e];exact z
 ·exact zs _ e
theorem cjA {r:Rat}{rs:List Rat}{k:Nat}(z:Siz r k) (zs:∀ x∈rs,Siz x k):Siz (yN r rs) k:=by
 rcases cca r rs with e|e
 ·rw[e];exact z
 ·exact zs _ e
theorem siz1 {s:Rat}{k:Nat}(z:Siz s k):∀ x∈[s],Siz x k:=by intro x hx;simp at hx;subst hx;exact z
theorem kp.set8 {W:World}{b:Nat}{c0 c1 c2 c3 c4 c5 c6 c7:Value}(h:kp W b c0 c1 c2 c3 c4 c5 c6 c7) (d0 d1 d2 d3 d4 d5 d6 d7:Value) :
 kp ((((((((W.setCell ⟨b,0,none⟩ d0).setCell ⟨b,1,none⟩ d1).setCell ⟨b,2,none⟩ d2).setCell ⟨b,3,none⟩ d3).setCell ⟨b,4,none⟩ d4).setCell ⟨b,5,none⟩ d5).setCell ⟨b,6,none⟩ d6).setCell ⟨b,7,none⟩ d7) b d0 d1 d2 d3 d4 d5 d6 d7 :=
 (h.setLow d0 d1 d2 d3).setHigh d4 d5 d6 d7
theorem jJ.box {b c:Nat}{w w':World}{a0 a1 a2 a3:Value}(h:jJ b w w') (hc:¬ c=b) (h0:w.cell? ⟨c,0,none⟩=some a0) (h1:w.cell? ⟨c,1,none⟩=some a1) (h2:w.cell? ⟨c,2,none⟩=some a2) (h3:w.cell? ⟨c,3,none⟩=some a3) :
 w'.cell? ⟨c,0,none⟩=some a0/\w'.cell? ⟨c,1,none⟩=some a1/\w'.cell? ⟨c,2,none⟩=some a2/\w'.cell? ⟨c,3,none⟩=some a3 :=
 ⟨(h.cell (p:=⟨c,0,none⟩) hc).trans h0,(h.cell (p:=⟨c,1,none⟩) hc).trans h1,(h.cell (p:=⟨c,2,none⟩) hc).trans h2,(h.cell (p:=⟨c,3,none⟩) hc).trans h3⟩
def hasQ (lo hi x:Rat):Bool:=decide (Ej lo [hi]<=x)&&decide (x<=yN lo [hi])
theorem has_any (v vx:Value) (lo hi x:Rat) (k:Nat) (w:World) (h:IsS w v lo hi) (hx:IsQ w vx x) (z1:Siz lo k) (z2:Siz hi k) (z3:Siz x k) (hk:(k:Int)<=1073741824) :
 Calls Tryz.prog 26 #[v,vx] w (Val w (.bool (hasQ lo hi x))):=by
 have HS:=ca (fun W (hW:Below w.heap.size w W)=>ccm v lo hi k W (h.below hW (cb _)) z1 z2 hk);have zl:=cmZ z1 (siz1 z2);have zh:=cjA z1 (siz1 z2);unfold hasQ;generalize Ej lo [hi]=l at *;generalize yN lo [hi]=g at *;have HC1:=ca (fun v1 W (h1:IsQ W v1 l) (hW:Below w.heap.size w W)=>clX v1 vx l x k W h1 (hx.below hW (cb _)) zl z3 hk);have HC2:=ca (fun v1 W (h1:IsQ W v1 g) (hW:Below w.heap.size w W)=>clX vx v1 x g k W (hx.below hW (cb _)) h1 z3 zh hk);obtain⟨s1,a1,b1,p1,s2,a2,b2,p2,rfl,_,_⟩:=h;obtain⟨s3,a3,b3,p3,rfl⟩:=hx.form;clear hx z1 z2 z3 hk zl zh
 go_enter Tryz.func26,Tryz.ntmps26
 go_wp2_with fail;have hb1:=jV w (.cells #[.bool s1,u a1,u b1,.pointer p1,.bool s2,u a2,u b2,.pointer p2] 36);have hs1:(w.alloc (.cells #[.bool s1,u a1,u b1,.pointer p1,.bool s2,u a2,u b2,.pointer p2] 36)).heap.size=w.heap.size+1:=Gc ..;have hB:=kp.new w (.bool s1) (u a1) (u b1) (.pointer p1) (.bool s2) (u a2) (u b2) (.pointer p2);obtain⟨W1,hW1⟩:∃ W1,w.alloc (.cells #[.bool s1,u a1,u b1,.pointer p1,.bool s2,u a2,u b2,.pointer p2] 36)=W1:=⟨_,rfl⟩;rw[hW1] at hb1 hs1 hB ⊢;obtain⟨W0,hW0,hb2,⟨g0,g1,g2,g3⟩⟩:=ccP W1 (.bool s3) (u a3) (u b3) (.pointer p3);rw[← hW0];rw[hs1] at g0 g1 g2 g3;have hB:=kp.below hB hb2 (cb _);have hb0:=cq hb1 hb2;have n1:¬ w.heap.size=w.heap.size+1:=by omega
 have n2:¬ w.heap.size+1=w.heap.size:=by omega
 clear hW1 hW0 hb1 hb2 hs1;refine(HS.out _ hb0).mono ?_;rintro e W2 ⟨v,rfl,hv,hb⟩
 (have hh:=Jk (b:=w.heap.size+1) hb g0 g1 g2 g3;clear g0 g1 g2 g3;obtain⟨g0,g1,g2,g3⟩:=hh)
 have hB:=kp.below hB hb (cb _);have hA:=cq hb0 hb;obtain⟨t1,d1,e1,q1,t2,d2,e2,q2,rfl,h1,h2⟩:=hv;have ho:=only8 W2 w.heap.size (.bool t1) (u d1) (u e1) (.pointer q1) (.bool t2) (u d2) (u e2) (.pointer q2);have H1:=ca (h1.other hB.nbox ho);have H2:=ca (h2.other hB.nbox ho);have HA:=ca (hA.trans (ho.below (cb _)));have HX:=ca (hB.set8 (.bool t1) (u d1) (u e1) (.pointer q1) (.bool t2) (u d2) (u e2) (.pointer q2));have HG:=ca (ho.box n2 g0 g1 g2 g3)
 (obtain⟨c0,c1,c2,c3,c4,c5,c6,c7⟩:=hB.cells)
 (have cf0:=kp.frozen hB 0;have cf1:=kp.frozen hB 1;have cf2:=kp.frozen hB 2;have cf3:=kp.frozen hB 3;have cf4:=kp.frozen hB 4;have cf5:=kp.frozen hB 5;have cf6:=kp.frozen hB 6;have cf7:=kp.frozen hB 7)
 clear hB hb hb0 hA h1 h2 ho HS;have hn1:decide (jk l x<=0)=decide (l<=x):=by rw[decide_eq_decide];exact cgI
 have hn2:decide (jk x g<=0)=decide (x<=g):=by rw[decide_eq_decide];exact cgI
 generalize jk l x=m1 at *;generalize jk x g=m2 at *;generalize decide (l<=x)=r1 at *;generalize decide (x<=g)=r2 at *;go_wp2_with fail;clear c0 c1 c2 c3 c4 c5 c6 c7 cf0 cf1 cf2 cf3 cf4 cf5 cf6 cf7 g0 g1 g2 g3;obtain⟨WS,hWS⟩:∃ WS,(((((((W2.setCell ⟨w.heap.size,0,none⟩ (.bool t1)).setCell ⟨w.heap.size,1,none⟩ (u d1)).setCell ⟨w.heap.size,2,none⟩ (u e1)).setCell ⟨w.heap.size,3,none⟩ (.pointer q1)).setCell ⟨w.heap.size,4,none⟩ (.bool t2)).setCell ⟨w.heap.size,5,none⟩ (u d2)).setCell ⟨w.heap.size,6,none⟩ (u e2)).setCell ⟨w.heap.size,7,none⟩ (.pointer q2)=WS:=⟨_,rfl⟩;rw[hWS] at H1 H2 HA HX HG ⊢;clear hWS;refine(HC1.out _ _ H1.out HA.out).mono ?_;rintro e W3 ⟨rfl,hb⟩;obtain⟨g0,g1,g2,g3⟩:=HG.out
 (have hh:=Jk (b:=w.heap.size+1) hb g0 g1 g2 g3;clear g0 g1 g2 g3;obtain⟨g0,g1,g2,g3⟩:=hh)
 have hB:=kp.below HX.out hb (cb _)
 (obtain⟨c0,c1,c2,c3,c4,c5,c6,c7⟩:=hB.cells)
 have H2:=ca (H2.out.below hb (cb _));have HA:=ca (cq HA.out hb);clear hb hB HX HG H1 HC1;cases r1
 ·have hr1:¬ m1<=0:=by simpa using hn1
  have hrd:decide (m1<=0)=false:=hn1;go_wp2_with fail
  go_ret
  exact⟨rfl,HA.out⟩
 ·have hr1:m1<=0:=by simpa using hn1
  go_wp2_with fail;refine(HC2.out _ _ H2.out HA.out).mono ?_;rintro e W4 ⟨rfl,hb⟩;have HA:=ca (cq HA.out hb);clear hb HC2 H2;cases r2
  ·have hr2:¬ m2<=0:=by simpa using hn2
   go_wp2_with fail
   go_ret
   exact⟨rfl,HA.out⟩
  ·have hr2:m2<=0:=by simpa using hn2
   go_wp2_with fail
   go_ret
   exact⟨rfl,HA.out⟩
end Go.Proofs.YtdopipkmcnkdjaaGreatDoor
