/- Part 10. -/
import Derived.Test.YtcgiaclelnmhbabGreatDoorE9
set_option linter.all false

namespace Go.Proofs.YtcgiaclelnmhbabGreatDoor.Lim
theorem YZ (v1 v2 v' u0 u1 u2 u' W Bs guess rest q:Nat) (_hW:v'<W) (hu':u'<W) (hu2:u2<Bs)
 (hg:guess*v1+rest=u0*Bs+u1) (hr:rest<v1)
 (hq:q*((v1*Bs+v2)*W+v')<=((u0*Bs+u1)*Bs+u2)*W+u'):q<=guess:=by
 have h1:q*(v1*Bs*W)<=q*((v1*Bs+v2)*W+v'):=ja _ (by rw[cD];omega);have h2:((u0*Bs+u1)*Bs+u2)*W+u'<((u0*Bs+u1)*Bs+u2+1)*W:=by
  have:=cD ((u0*Bs+u1)*Bs+u2) 1 W;omega
 have h3:((u0*Bs+u1)*Bs+u2+1)*W<=((u0*Bs+u1+1)*Bs)*W:=cK _ (by rw[cD (u0*Bs+u1)];omega);have h4:(q*v1)*(Bs*W)<(u0*Bs+u1+1)*(Bs*W):=by
  have e1:q*(v1*Bs*W)=(q*v1)*(Bs*W):=by simp only[jk]
  have e2:((u0*Bs+u1+1)*Bs)*W=(u0*Bs+u1+1)*(Bs*W):=by simp only[jk]
  omega
 have h5:q*v1<u0*Bs+u1+1:=Eo h4;have h6:q*v1<(guess+1)*v1:=by rw[cD];omega
 have:=Eo h6;omega
theorem UT (v1 v2 v' u0 u1 u2 u' W Bs guess rest q:Nat) (hu':u'<W)
 (hg:guess*v1+rest=u0*Bs+u1) (hbig:rest*Bs+u2<guess*v2)
 (hq:q*((v1*Bs+v2)*W+v')<=((u0*Bs+u1)*Bs+u2)*W+u'):q<guess:=by
 have h1:((u0*Bs+u1)*Bs+u2)<guess*(v1*Bs+v2):=by
  rw[← hg,cD,cI,← jk];omega
 have h2:(((u0*Bs+u1)*Bs+u2)+1)*W<=guess*(v1*Bs+v2)*W:=cK _ h1;rw[cD] at h2;have h3:q*((v1*Bs+v2)*W)<=q*((v1*Bs+v2)*W+v'):=ja _ (by omega);have h4:q*((v1*Bs+v2)*W)<guess*((v1*Bs+v2)*W):=by rw[← jk guess];omega
 exact Eo h4
theorem cdE (v1 v2 v' u0 u1 u2 u' W Bs guess q:Nat) (hW:v'<W) (hgB:guess<=Bs) (hv1:0<v1)
 (hfit:guess*(v1*Bs+v2)<=(u0*Bs+u1)*Bs+u2)
 (hq:((u0*Bs+u1)*Bs+u2)*W+u'<(q+1)*((v1*Bs+v2)*W+v')):guess<=q+1:=by
 have h1:guess*(v1*Bs+v2)*W<=((u0*Bs+u1)*Bs+u2)*W:=cK _ hfit;have h2:guess*v'<=Bs*W:=uN hgB (by omega);have h3:Bs*W<=(v1*Bs+v2)*W+v':=by
  have:1*Bs*W<=(v1*Bs+v2)*W:=cK _ (cB (cK _ hv1) (by omega));rw[jI] at this;omega
 have h4:guess*((v1*Bs+v2)*W+v')<(q+1+1)*((v1*Bs+v2)*W+v'):=by
  rw[cI guess,← jk,cD (q+1) 1,jI];omega
 have:=Eo h4;omega
theorem cez (v1 v2 v' u0 u1 u2 u' W Bs q:Nat) (hW:v'<W) (hB:0<Bs) (hv2:v2<Bs) (hu0:v1<=u0) (hv1:Bs<=2*v1)
 (hq:((u0*Bs+u1)*Bs+u2)*W+u'<(q+1)*((v1*Bs+v2)*W+v')):Bs-1<=q+1:=by
 have hv:(v1*Bs+v2)*W+v'<(v1+1)*Bs*W:=by
  have h:(v1*Bs+v2+1)*W<=(v1+1)*Bs*W:=cK _ (by rw[cD];omega);rw[cD (v1*Bs+v2) 1] at h;omega
 have hu:v1*Bs*Bs*W<=((u0*Bs+u1)*Bs+u2)*W+u':=by
  have h1:v1*Bs*Bs<=(u0*Bs+u1)*Bs+u2:=by
   have:=cK Bs (show v1*Bs<=u0*Bs+u1 from by have:=cK Bs hu0;omega);omega
  have:=cK W h1;omega
 have h:v1*Bs*Bs*W<(q+1)*((v1+1)*Bs*W):=by
  have:=ja (q+1) (uK hv);omega
 have h':(v1*Bs)*(Bs*W)<((q+1)*(v1+1))*(Bs*W):=by
  have e1:v1*Bs*Bs*W=(v1*Bs)*(Bs*W):=by simp only[jk]
  have e2:(q+1)*((v1+1)*Bs*W)=((q+1)*(v1+1))*(Bs*W):=by simp only[jk]
  omega
 have h5:v1*Bs<(q+1)*(v1+1):=Eo h';rcases jj (q+1) (Bs-1) with hlt|hge
 ·exfalso;have h6:(q+1)*(v1+1)<=(Bs-2)*(v1+1):=cK _ (by omega);have h7:(Bs-2)*(v1+1)=(Bs-2)*v1+(Bs-2):=by rw[cI,zc]
  have h8:v1*Bs=(Bs-2)*v1+2*v1:=by
   rw[← cD,jf];congr 1;omega
  omega
 ·exact hge
end Go.Proofs.YtcgiaclelnmhbabGreatDoor.Lim

namespace Go.Proofs.YtcgiaclelnmhbabGreatDoor
open Go Go.RowKit Go.Proofs Lim
theorem WP {U1 u2 v1 v0:Nat}(hU:U1<v1*H+v0) (hv0:v0<H) (hu2:u2<H) (hv1:H<=2*v1) :
 (U1*H+u2)/(v1*H+v0)<=U1/v1/\U1/v1<=H+1:=by
 have hv1p:0<v1:=by have:=ccr;omega
 refine⟨?_,?_⟩
 ·have h:=YZ v1 v0 0 0 U1 u2 0 1 H (U1/v1) (U1%v1) ((U1*H+u2)/(v1*H+v0)) (by omega) (by omega) hu2
   (by have:=kf U1 v1;rw[Cg,jb,jf];exact this) (jJ _ hv1p)
   (by have:=Jc (U1*H+u2) (v1*H+v0);simpa using this)
  exact h
 ·have h1:U1<v1*(H+2):=by rw[cI];omega
  have:=uM h1;omega
theorem cdk {U1 u2 v1 v0:Nat}(hU:U1<v1*H+v0) (hu2:u2<H):(U1*H+u2)/(v1*H+v0)<H:=by
 refine uM ?_;have:(U1+1)*H<=(v1*H+v0)*H:=cK _ hU;rw[cD] at this;omega
theorem UU {U1 u2 v1 v0 g r:Nat}(hg:g*v1+r=U1) (hbig:r*H+u2<g*v0):(U1*H+u2)/(v1*H+v0)<g:=by
 refine UT v1 v0 0 0 U1 u2 0 1 H g r _ (by omega) (by simpa using hg) hbig ?_;have:=Jc (U1*H+u2) (v1*H+v0);simpa using this
theorem WT {U1 u2 v1 v0 g r:Nat}(hg:g*v1+r=U1) (hfit:g*v0<=r*H+u2) (hv:0<v1):g<=(U1*H+u2)/(v1*H+v0):=by
 have hp:0<v1*H:=Nat.mul_pos hv ccr;refine(Nat.le_div_iff_mul_le (by omega)).2 ?_;rw[← hg,cI,cD,jk];omega
theorem ceK {U1 u2 v1 v0 g r:Nat}(hg:g*v1+r=U1) (hr:H<=r) (hgH:g<=H) (hv0:v0<H) (hv:0<v1):g<=(U1*H+u2)/(v1*H+v0):=by
 refine WT hg ?_ hv;have h1:g*v0<=H*H:=uN hgH (by omega);have h2:H*H<=r*H:=cK _ hr;omega
theorem zT {G R v1 U:Nat}(h:G*v1+R=U) (hG:1<=G):(G-1)*v1+(R+v1)=U:=by
 rw[← h];have:G*v1=(G-1)*v1+v1:=by rw[← GP];congr 1;omega
 omega
theorem Et {U1 u2 v1 v0 G R Q:Nat}(hQ:(U1*H+u2)/(v1*H+v0)=Q) (hg:G*v1+R=U1) (hlt:Q<G) (hG:G<=H+1) (hr:H<=R+v1) (hv0:v0<H) (hv:0<v1) :
 G-1=Q:=by
 have h:=ceK (u2:=u2) (zT hg (by omega)) hr (by omega) hv0 hv;omega
theorem Yy {U1 u2 v1 v0 G R Q:Nat}(hQ:(U1*H+u2)/(v1*H+v0)=Q) (hg:G*v1+R=U1) (hle:Q<=G) (hfit:¬ H*R+u2<G*v0) (hv:0<v1):G=Q:=by
 have h:=WT (u2:=u2) (v0:=v0) hg (by rw[jf R];omega) hv;omega
theorem ccS {G v0:Nat}(h1:G<H) (h2:v0<H):G*v0<B:=by
 rw[← HH];have:=uN (uK h1) (uK h2);have h3:G*v0<=(H-1)*(H-1):=uN (by omega) (by omega);have h4:(H-1)*(H-1)<H*H:=by decide
 omega
theorem cbZ (lo y:Nat) (hy:0<y) (hlo:lo<B) (w:World) :
 Calls Tryz.prog 112 #[u 0,u lo,u y] w fun e w'=>e=.returned (.tuple #[u (lo/y),u (lo%y)])/\∃ k,w'=w.drewN k:=by
 have h1:(((y:Nat):Int) == 0)=false:=by rw[jn];omega
 have h2:(1:Int)<=(y:Int):=by omega
 go_enter Tryz.func112,Tryz.ntmps112
 go_wp2_with fail
 go_quiet (fail)
 go_wp2_with fail
 go_ret2
 refine⟨?_,_,rfl⟩;show Ending.returned (.tuple #[.int .u64 (IntKind.u64.wrap ((lo:Int)/(y:Int))),.int .u64 ((lo:Int)%(y:Int))])=_;have:lo/y<=lo:=kz _ _;rw[← Cu,← Int.natCast_emod,jX (by omega)]
set_option maxRecDepth 100000 in
theorem chs (hi lo y:Nat) (hhi:hi<y) (hhi0:0<hi) (hlo:lo<B) (hyB:y<B) (w:World) :
 Calls Tryz.prog 112 #[u hi,u lo,u y] w fun e w'=>e=.returned (.tuple #[u ((hi*B+lo)/y),u ((hi*B+lo)%y)])/\∃ k,w'=w.drewN k:=by
 have h1:(((y:Nat):Int) == 0)=false:=by rw[jn];omega
 have h2:(((hi:Nat):Int) == 0)=false:=by rw[jn];omega
 obtain⟨hs,hyn,hyn2⟩:=caL (by omega) hyB;have hsp:=cab lo (lz y) (by omega);have hsl:=cbx hlo (s:=lz y) (by omega);have hhs:(hi+1)*2^lz y<=y*2^lz y:=cK _ hhi;rw[cD,jI] at hhs;have e1:IntKind.u64.wrap ((y:Int)*2^lz y)=((y*2^lz y:Nat):Int):=by rw[zi,kP hyn]
 have e2:IntKind.u64.wrap ((hi:Int)*2^lz y)=((hi*2^lz y:Nat):Int):=by rw[zi,kP (jH (Nat.le_add_right _ _) (jH hhs hyn))]
 have e3:bits .or .u64 ((hi*2^lz y:Nat):Int) ((lo:Int)/2^(64-lz y))=((hi*2^lz y+lo/2^(64-lz y):Nat):Int):=by
  rw[yU,ceP hsl (Je (cT (Nat.add_lt_add_left hsl _) hhs) hyn)]
 have e4:=zi lo (lz y);have hq:(hi*B+lo)*2^lz y=(hi*2^lz y+lo/2^(64-lz y))*B+lo*2^lz y%B:=by
  rw[cD,cD,Nat.mul_right_comm];omega
 have hlt:hi*2^lz y+lo/2^(64-lz y)<y*2^lz y:=cT (Nat.add_lt_add_left hsl _) hhs;have hdiv:(hi*B+lo)/y=((hi*B+lo)*2^lz y)/(y*2^lz y):=(caE _ _ (jV (by omega))).symm;have hmod:(hi*B+lo)%y=((hi*B+lo)*2^lz y)%(y*2^lz y)/2^lz y:=by
  rw[caD,Nat.mul_div_cancel _ (jV (by omega))]
 rw[hdiv,hmod,hq];have hl10:lo*2^lz y%B<B:=jJ _ jE;rw[show ((hi*2^lz y:Nat):Int)=((hi*2^lz y:Nat):Int) from rfl] at e2;generalize hg1:y*2^lz y=yn at *;generalize hg2:hi*2^lz y+lo/2^(64-lz y)=un32 at *;generalize hg3:lo*2^lz y%B=un10 at *;generalize hg4:hi*2^lz y=hn at *;clear hdiv hmod hq hsp hsl hhs hg1 hg2 hg3 hg4;have hz:lz y<64:=by omega
 generalize hgs:lz y=s at *;have f1:=ccQ yn;have f2:=ccE hyn;have f3:=ccQ un10;have f4:=ccE hl10;have d1:=kf yn H;have d2:=kf un10 H;have d3:=jJ yn ccr;have d4:=jJ un10 ccr;generalize yn/H=v1 at *;generalize yn%H=v0 at *;generalize un10/H=n1 at *;generalize un10%H=n0 at *;have hB:B=H*H:=by rw[HH]
 have hv1:H<=2*v1:=by
  rw[← d1,hB] at hyn2;have:H*H<2*(H*(v1+1)):=by rw[cI];omega
  rw[Wj] at this;have:=EA this;have:H%2=0:=by decide
  omega
 have hn1:n1<H:=by
  have h3:H*n1<H*H:=by omega
  exact EA h3
 have hv1H:v1<H:=by
  have h3:H*v1<H*H:=by omega
  exact EA h3
 rw[jf] at d1 d2;obtain⟨g1,g2⟩:=WP (u2:=n1) (by rw[d1];exact hlt) d3 hn1 hv1;have g3:=cdk (u2:=n1) (v1:=v1) (v0:=v0) (by rw[d1];exact hlt) hn1;have hv1p:0<v1:=by have:=ccr;omega
 obtain⟨g,hgd⟩:∃ g,g=un32/v1:=⟨_,rfl⟩;obtain⟨r,hrd⟩:∃ r,r=un32%v1:=⟨_,rfl⟩;have hgr:g*v1+r=un32:=by rw[hgd,hrd,jf];exact kf un32 v1
 have hrlt:r<v1:=by rw[hrd];exact jJ _ hv1p
 rw[← hgd] at g1 g2;have k1:((un32:Nat):Int)/(v1:Int)=(g:Int):=by rw[hgd,Cu]
 have hgB:g*v1<=un32:=by omega
 obtain⟨p,hp⟩:∃ p,p=g*v1:=⟨_,rfl⟩;have k2:IntKind.u64.wrap ((g:Int)*(v1:Int))=(p:Int):=by rw[hp,← kT,jX (by omega)]
 have k3:IntKind.u64.wrap ((un32:Int)-(p:Int))=(r:Int):=by rw[zM (by omega) (by omega)];congr 1;omega
 have hHH:H=4294967296:=rfl;rw[hHH] at g2 d3 d4 hn1 hv1H;have HD1:=ca d1;have HD2:=ca d2;have Hg1:=ca g1;have HB:=ca hB;have Hgr:=ca hgr;have Hp:=ca hp;clear d1 d2 hB g1 hgr hp hgd hrd hHH
 go_enter Tryz.func112,Tryz.ntmps112
 go_upto_region 15 with(go_at_call 123;refine(Yn _ hyB _).mono ?_;rintro e w' ⟨rfl,rfl⟩)
 go_upto_block 0 with(fail)
 go_cut [15] (fun q w'=>q=u ((un32*H+n1)/(v1*H+v0))/\w'=w)
 case first =>
  clear k1 k2 k3 e1 e2 e3 e4 f1 f2 f3 f4 h1 h2;generalize hQ:(un32*H+n1)/(v1*H+v0)=Q at *;have HQ:=ca hQ;clear hQ;have i3:(v0:Int)<4294967296:=by omega
  have i5:(n1:Int)<4294967296:=by omega
  have i6:(v1:Int)<4294967296:=by omega
  have i7:(g:Int)<=4294967297:=by omega
  clear d3 d4 hn1 hv1H g2;go_wp2_with fail
  go_loop [15,16] (fun q r=>∃ G R:Nat,q=u G/\r=u R/\(G:Int)<=4294967297/\(R:Int)<4294967296/\Hid (G*v1+R=un32/\Q<=G)) (fun q _=>(intOf q).toNat)
  case atStart=>exact⟨g,r,rfl,rfl,i7,by omega,Hgr.out,Hg1.out⟩
  case round =>
   obtain⟨G,R,rfl,rfl,hG,hR,hGR⟩:=hrel;by_cases hbig:(4294967296:Int)<=(G:Int)
   ·have h1G:(1:Int)<=(G:Int):=by omega
    by_cases hover:(4294967296:Int)<=(R:Int)+(v1:Int)
    ·go_wp2_with fail
     go_meet
     case rel =>
      refine⟨?_,rfl⟩;have:=Et HQ.out hGR.out.1 (by have:=g3;unfold H at this;omega) (by unfold H;omega) (by unfold H;omega) (by unfold H;omega) hv1p;rw[← this];show Value.int .u64 _=Value.int .u64 _;congr 1;omega
    ·go_wp2_with fail
     go_round
     case rel =>
      refine⟨G-1,R+v1,?_,by go_num,by omega,by omega,zT hGR.out.1 (by omega),?_⟩
      ·show Value.int .u64 _=Value.int .u64 _;congr 1;omega
      ·have:=g3;unfold H at this;omega
     case measure=>simp [intOf];omega
   ·obtain⟨m,hm⟩:∃ m,m=G*v0:=⟨_,rfl⟩;have km:IntKind.u64.wrap ((G:Int)*(v0:Int))=(m:Int):=by
     rw[hm,← kT,jX (ccS (by unfold H;omega) (by unfold H;omega))]
    have HM:=ca hm;clear hm;by_cases htest:4294967296*(R:Int)+(n1:Int)<(m:Int)
    ·have hlow:Q<G:=by
      have:=UU (u2:=n1) (v0:=v0) hGR.out.1 (by rw[← HM.out,jf];unfold H;omega);rw[HQ.out] at this;exact this
     have h1G:(1:Int)<=(G:Int):=by omega
     by_cases hover:(4294967296:Int)<=(R:Int)+(v1:Int)
     ·go_wp2_with fail
      go_meet
      case rel =>
       refine⟨?_,rfl⟩;have:=Et HQ.out hGR.out.1 hlow (by unfold H;omega) (by unfold H;omega) (by unfold H;omega) hv1p;rw[← this];show Value.int .u64 _=Value.int .u64 _;congr 1;omega
     ·go_wp2_with fail
      go_round
      case rel =>
       refine⟨G-1,R+v1,?_,by go_num,by omega,by omega,zT hGR.out.1 (by omega),by omega⟩;show Value.int .u64 _=Value.int .u64 _;congr 1;omega
      case measure=>simp [intOf];omega
    ·have hst:=Yy HQ.out hGR.out.1 hGR.out.2 (by rw[← HM.out];unfold H;omega) hv1p;have HST:=ca hst;clear hst;go_wp2_with fail
     go_meet
     case rel=>exact⟨by rw[HST.out],rfl⟩
 case rest =>
  obtain⟨rfl,rfl⟩:=hcut;clear k1 k2 k3 e1 e2 e3 e4 f1 f2 f3 f4 h1 h2 Hg1 Hgr Hp hgB hrlt g2;have hyv:v1*H+v0=yn:=HD1.out;have hBH:B=H*H:=HB.out;rw[hyv] at g3 ⊢;obtain⟨Q1,hQ1⟩:∃ Q1,Q1=(un32*H+n1)/yn:=⟨_,rfl⟩;obtain⟨R1,hR1⟩:∃ R1,R1=(un32*H+n1)%yn:=⟨_,rfl⟩;have hR1lt:R1<yn:=by rw[hR1];exact jJ _ (by omega)
  have hdm:Q1*yn+R1=un32*H+n1:=by rw[hQ1,hR1,jf];exact kf _ _
  rw[← hQ1] at g3 ⊢;obtain⟨P1,hP1⟩:∃ P1,P1=Q1*yn:=⟨_,rfl⟩;have k4:IntKind.u64.wrap (IntKind.u64.wrap (IntKind.u64.wrap ((un32:Int)*4294967296)+(n1:Int))-IntKind.u64.wrap ((Q1:Int)*(yn:Int)))=(R1:Int):=by
   rw[← kT Q1 yn,← hP1];rw[← hP1] at hdm;simp only[zQ];unfold H at hdm;unfold B at hyn;omega
  obtain⟨U2,hU2⟩:∃ U2,U2=R1*H+n0:=⟨_,rfl⟩;have g4:U2/yn<H:=by rw[hU2,← hyv];exact cdk (by rw[hyv];exact hR1lt) d4
  obtain⟨g1',g2'⟩:=WP (U1:=R1) (u2:=n0) (v1:=v1) (v0:=v0) (by rw[hyv];exact hR1lt) d3 d4 hv1;obtain⟨gg,hgd⟩:∃ gg,gg=R1/v1:=⟨_,rfl⟩;obtain⟨rr,hrd⟩:∃ rr,rr=R1%v1:=⟨_,rfl⟩;have hgr:gg*v1+rr=R1:=by rw[hgd,hrd,jf];exact kf R1 v1
  have hrlt:rr<v1:=by rw[hrd];exact jJ _ hv1p
  rw[← hgd] at g1' g2';have k1:((R1:Nat):Int)/(v1:Int)=(gg:Int):=by rw[hgd,Cu]
  have hgB:gg*v1<=R1:=by omega
  obtain⟨pp,hp⟩:∃ pp,pp=gg*v1:=⟨_,rfl⟩;have k2:IntKind.u64.wrap ((gg:Int)*(v1:Int))=(pp:Int):=by rw[hp,← kT,jX (by omega)]
  have k3:IntKind.u64.wrap ((R1:Int)-(pp:Int))=(rr:Int):=by rw[zM (by omega) (by omega)];congr 1;omega
  have hHH:H=4294967296:=rfl;rw[hHH] at g2';have HQ1:=ca hQ1;have HR1:=ca hR1;have Hdm:=ca hdm;have HP1:=ca hP1;have HU2:=ca hU2;have Hyv:=ca hyv;have HBH:=ca hBH;have Hgr:=ca hgr;have Hp:=ca hp;have Hg1:=ca g1';clear hQ1 hR1 hdm hP1 hU2 hyv hBH hgr hp hgd hrd g1' hHH;rw[HU2.out,← Hyv.out] at g4
  go_upto_block 2 with(fail)
  go_cut [18] (fun q w'=>q=u ((R1*H+n0)/(v1*H+v0))/\w'=wc)
  case first =>
   clear k1 k2 k3 k4;generalize hQ:(R1*H+n0)/(v1*H+v0)=Q at *;have HQ:=ca hQ;clear hQ;have i3:(v0:Int)<4294967296:=by omega
   have i5:(n0:Int)<4294967296:=by omega
   have i6:(v1:Int)<4294967296:=by omega
   have i7:(gg:Int)<=4294967297:=by omega
   clear d3 d4 hn1 hv1H g2';go_wp2_with fail
   go_loop [18,16] (fun q r=>∃ G R:Nat,q=u G/\r=u R/\(G:Int)<=4294967297/\(R:Int)<4294967296/\Hid (G*v1+R=R1/\Q<=G)) (fun q _=>(intOf q).toNat)
   case atStart=>exact⟨gg,rr,rfl,rfl,i7,by omega,Hgr.out,Hg1.out⟩
   case round =>
    obtain⟨G,R,rfl,rfl,hG,hR,hGR⟩:=hrel;by_cases hbig:(4294967296:Int)<=(G:Int)
    ·have h1G:(1:Int)<=(G:Int):=by omega
     by_cases hover:(4294967296:Int)<=(R:Int)+(v1:Int)
     ·go_wp2_with fail
      go_meet
      case rel =>
       refine⟨?_,rfl⟩;have:=Et HQ.out hGR.out.1 (by have:=g4;unfold H at this;omega) (by unfold H;omega) (by unfold H;omega) (by unfold H;omega) hv1p;rw[← this];show Value.int .u64 _=Value.int .u64 _;congr 1;omega
     ·go_wp2_with fail
      go_round
      case rel =>
       refine⟨G-1,R+v1,?_,by go_num,by omega,by omega,zT hGR.out.1 (by omega),?_⟩
       ·show Value.int .u64 _=Value.int .u64 _;congr 1;omega
       ·have:=g4;unfold H at this;omega
      case measure=>simp [intOf];omega
    ·obtain⟨m,hm⟩:∃ m,m=G*v0:=⟨_,rfl⟩;have km:IntKind.u64.wrap ((G:Int)*(v0:Int))=(m:Int):=by
      rw[hm,← kT,jX (ccS (by unfold H;omega) (by unfold H;omega))]
     have HM:=ca hm;clear hm;by_cases htest:4294967296*(R:Int)+(n0:Int)<(m:Int)
     ·have hlow:Q<G:=by
       have:=UU (u2:=n0) (v0:=v0) hGR.out.1 (by rw[← HM.out,jf];unfold H;omega);rw[HQ.out] at this;exact this
      have h1G:(1:Int)<=(G:Int):=by omega
      by_cases hover:(4294967296:Int)<=(R:Int)+(v1:Int)
      ·go_wp2_with fail
       go_meet
       case rel =>
        refine⟨?_,rfl⟩;have:=Et HQ.out hGR.out.1 hlow (by unfold H;omega) (by unfold H;omega) (by unfold H;omega) hv1p;rw[← this];show Value.int .u64 _=Value.int .u64 _;congr 1;omega
      ·go_wp2_with fail
       go_round
       case rel =>
        refine⟨G-1,R+v1,?_,by go_num,by omega,by omega,zT hGR.out.1 (by omega),by omega⟩;show Value.int .u64 _=Value.int .u64 _;congr 1;omega
       case measure=>simp [intOf];omega
     ·have hst:=Yy HQ.out hGR.out.1 hGR.out.2 (by rw[← HM.out];unfold H;omega) hv1p;have HST:=ca hst;clear hst;go_wp2_with fail
      go_meet
      case rel=>exact⟨by rw[HST.out],rfl⟩
  case rest =>
   obtain⟨rfl,rfl⟩:=hcut;clear k1 k2 k3 k4;rw[Hyv.out];have hyB':=hyB;obtain⟨Q0,hQ0⟩:∃ Q0,Q0=(R1*H+n0)/yn:=⟨_,rfl⟩;obtain⟨R0,hR0⟩:∃ R0,R0=(R1*H+n0)%yn:=⟨_,rfl⟩;have hR0lt:R0<yn:=by rw[hR0];exact jJ _ (by omega)
   have hdm0:Q0*yn+R0=R1*H+n0:=by rw[hQ0,hR0,jf];exact kf _ _
   rw[Hyv.out,← hQ0] at g4;rw[← hQ0];obtain⟨P0,hP0⟩:∃ P0,P0=Q0*yn:=⟨_,rfl⟩;have k4:IntKind.u64.wrap (IntKind.u64.wrap (IntKind.u64.wrap ((R1:Int)*4294967296)+(n0:Int))-IntKind.u64.wrap ((Q0:Int)*(yn:Int)))=(R0:Int):=by
    rw[← kT Q0 yn,← hP0];rw[← hP0] at hdm0;simp only[zQ];unfold H at hdm0;unfold B at hyn;omega
   have k5:IntKind.u64.wrap (IntKind.u64.wrap ((Q1:Int)*4294967296)+(Q0:Int))=((Q1*H+Q0:Nat):Int):=by
    have hHH:H=4294967296:=rfl;simp only[zQ];rw[hHH] at g3 g4 ⊢;omega
   have hfin:un32*B+un10=(Q1*H+Q0)*yn+R0:=by
    have h1:=Hdm.out;have h2:=HD2.out;have h3:=HBH.out;rw[← h2,h3,cD,Nat.mul_right_comm Q1 H yn,← jk un32];have h4:(Q1*yn+R1)*H=(un32*H+n1)*H:=by rw[h1]
    rw[cD,cD] at h4;omega
   have f1:(un32*B+un10)/yn=Q1*H+Q0:=by
    rw[hfin,jf,Nat.mul_add_div (by omega),Wh hR0lt,jz]
   have f2:(un32*B+un10)%yn=R0:=by
    rw[hfin,jf,Nat.mul_add_mod,kP hR0lt]
   obtain⟨Qf,hQf⟩:∃ Qf,Qf=Q1*H+Q0:=⟨_,rfl⟩;rw[← hQf] at k5 f1;have F1:=ca f1;have F2:=ca f2;clear f1 f2 hfin hdm0 hQ0 hR0 hP0 hQf;go_wp2_with fail
   go_ret2
   refine⟨?_,0,rfl⟩;rw[F1.out,F2.out];show Ending.returned (.tuple #[.int .u64 (Qf:Int),.int .u64 ((R0:Int)/2^s)])=_;rw[yU]
def quo2 (hi lo y:Nat):Nat:=(hi*B+lo)/y
def rem2 (hi lo y:Nat):Nat:=(hi*B+lo)%y
theorem Zl (hi lo y:Nat) (hhi:hi<y) (hlo:lo<B) (hyB:y<B) (w:World) :
 Calls Tryz.prog 112 #[u hi,u lo,u y] w fun e w'=>e=.returned (.tuple #[u (quo2 hi lo y),u (rem2 hi lo y)])/\∃ k,w'=w.drewN k:=by
 rcases jr hi with h|h
 ·subst h;have:=cbZ lo y hhi hlo w;simpa [quo2,rem2] using this
 ·exact chs hi lo y hhi h hlo hyB w
end Go.Proofs.YtcgiaclelnmhbabGreatDoor
