/- Part 30. -/
import Derived.Test.YtolcmngcebnjdaaGreatDoorW29
set_option linter.all false
open Bool (and_eq_true eq_false_or_eq_true)
open Nat (le_refl lt_of_lt_of_le not_lt_zero zero_le)
noncomputable section

namespace Go.Proofs.YtolcmngcebnjdaaGreatDoor
open Go Go.RowKit Go.Proofs Lim
namespace Pe
noncomputable def kLine14_:List Kp:=[.code (codeOf Tryz.f14)]
noncomputable def kLine14_n:List Kp:=next kLine14_
noncomputable def kLine14_nt:List Kp:=kLine14_n.tail
noncomputable def kLine14_nl:List Kp:=[.code (kj kLine14_n)]
noncomputable def kVehicle15_:List Kp:=[.code (codeOf Tryz.f15)]
noncomputable def kVehicle15_n:List Kp:=next kVehicle15_
noncomputable def kVehicle15_nt:List Kp:=kVehicle15_n.tail
noncomputable def kVehicle15_nl:List Kp:=[.code (kj kVehicle15_n)]
theorem cbg {r:Rat}:jg r=0↔r=0:=by
 unfold jg;rw[← Rat.num_eq_zero];by_cases h:r.num=0
 ·rw[if_pos h];exact⟨fun _=>h,fun _=>rfl⟩
 ·rw[if_neg h];split
  ·exact⟨fun x=>absurd x (by decide),fun x=>absurd x h⟩
  ·exact⟨fun x=>absurd x (by decide),fun x=>absurd x h⟩
theorem cey (L:List R2) (i:Nat):lev L i=decide (yAt L i=0):=by
 unfold lev;exact decide_eq_decide.2 cbg
theorem Zx {L:List R2}(h:asc L=true):okL L=(decide ((L.length:Int)>=2)&&decide ((L.length:Int)<=60)&&decide (yAt L 0=0)&&decide (yAt L (L.length-1)=0)):=by
 unfold okL;rw[h,cey,cey,Bool.and_true]
theorem okl_no {L:List R2}{i:Nat}(hi:i+1<L.length) (h:up L i=false):okL L=false:=by
 have h1:asc L=false:=by
  have:=Ki hi h;injection this
 unfold okL;rw[h1,Bool.and_false]
theorem up_ge {L:List R2}{i:Nat}{b:Bool}(h:decide (jp (xAt L i) (xAt L (i+1))>=0)=b):up L i=!b:=by
 subst h;unfold up;by_cases h1:jp (xAt L i) (xAt L (i+1))<0
 ·rw[decide_eq_true h1,decide_eq_false (by omega)];rfl
 ·rw[decide_eq_false h1,decide_eq_true (by omega)];rfl
abbrev rlI (lo ty:Nat) (L:List R2) (i:Nat):St Dx:=⟨1,[(0,.val (.one (.sym 0 0))),(3,.val (.one (.lit (ii ((i+1:Nat):Int)))))],[(0,.cls (.ls (lst lo ty 6 L fR)))],[]⟩
theorem rla {w:World}(l0:Nat) (L:List R2):run w ⟨[],[],[]⟩ 14 48 kLine14_ (stA [pM l0 100 L]) (rlI l0 100 L 0)=some (.normal,[ct (W0 w) (.ls (lst l0 100 6 L fR)) (.ls (lst l0 100 6 L fR)),ii (↑(0+1):Int)=Value.int IntKind.i64 1]):=by kernel_rfl
noncomputable abbrev rleR (w:World) (l0:Nat) (L:List R2) (i:Nat) (o:List (Nat×Nat×Bool)):=runR w ⟨o,[],[]⟩ 14 48 Tryz.f14 kLine14_nt (rlI l0 100 L i) (rB (okL L))
theorem rle0 {w:World}(l0:Nat) (L:List R2) (i:Nat):rleR w l0 L i [(14,25,true),(14,29,true),(14,36,true),(14,46,true),(14,42,true)]=some (.ret,[decide ((L.length:Int)>=2)=true,decide ((L.length:Int)<=60)=true,0<L.length,0<L.length,decide ((L.getD 0 default).2=0)=true,1<=L.length,L.length<=1000000000,L.length-1<L.length,L.length-1<L.length,decide ((L.getD (L.length-1) default).2=0)=true,Value.bool (okL L)=Value.bool true]):=by kernel_rfl
theorem rle1 {w:World}(l0:Nat) (L:List R2) (i:Nat):rleR w l0 L i [(14,25,true),(14,29,true),(14,36,true),(14,46,false),(14,42,true)]=some (.ret,[decide ((L.length:Int)>=2)=true,decide ((L.length:Int)<=60)=true,0<L.length,0<L.length,decide ((L.getD 0 default).2=0)=true,1<=L.length,L.length<=1000000000,L.length-1<L.length,L.length-1<L.length,decide ((L.getD (L.length-1) default).2=0)=false,Value.bool (okL L)=Value.bool false]):=by kernel_rfl
theorem rle2 {w:World}(l0:Nat) (L:List R2) (i:Nat):rleR w l0 L i [(14,25,true),(14,29,true),(14,36,false),(14,42,true)]=some (.ret,[decide ((L.length:Int)>=2)=true,decide ((L.length:Int)<=60)=true,0<L.length,0<L.length,decide ((L.getD 0 default).2=0)=false,Value.bool (okL L)=Value.bool false]):=by kernel_rfl
theorem rle3 {w:World}(l0:Nat) (L:List R2) (i:Nat):rleR w l0 L i [(14,25,true),(14,29,false),(14,42,true)]=some (.ret,[decide ((L.length:Int)>=2)=true,decide ((L.length:Int)<=60)=false,Value.bool (okL L)=Value.bool false]):=by kernel_rfl
theorem rle4 {w:World}(l0:Nat) (L:List R2) (i:Nat):rleR w l0 L i [(14,25,false),(14,42,true)]=some (.ret,[decide ((L.length:Int)>=2)=false,Value.bool (okL L)=Value.bool false]):=by kernel_rfl
noncomputable abbrev rlbTe0 (w:World) (l0:Nat) (L:List R2) (i:Nat) (o:List (Nat×Nat×Bool)):=run w ⟨o,[],[]⟩ 14 48 kLine14_nl (rlI l0 100 L i) (rlI l0 100 L i)
noncomputable abbrev rlbTnal (w:World) (l0:Nat) (L:List R2) (i:Nat) (o:List (Nat×Nat×Bool)):=run w ⟨o,[],[]⟩ 14 48 kLine14_nl (rlI l0 100 L i) (rlI l0 100 L (i+1))
noncomputable abbrev rlbR (w:World) (l0:Nat) (L:List R2) (i:Nat) (o:List (Nat×Nat×Bool)):=runR w ⟨o,[],[]⟩ 14 48 Tryz.f14 kLine14_nl (rlI l0 100 L i) (rB (okL L))
theorem rlb0 {w:World}(l0:Nat) (L:List R2) (i:Nat):rlbR w l0 L i [(14,7,true),(14,22,true),(14,12,true)]=some (.ret,[decide ((↑(i+1):Int)<(L.length:Int))=true,1<=i+1,i+1<=1000000000,i+1-1<L.length,i+1-1<L.length,i+1<L.length,i+1<L.length,4+4<=10000,decide (jp (L.getD (i+1-1) default).1 (L.getD (i+1) default).1>=0)=true,Value.bool (okL L)=Value.bool false]):=by kernel_rfl
theorem rlb1 {w:World}(l0:Nat) (L:List R2) (i:Nat):rlbTnal w l0 L i [(14,7,true),(14,22,false),(14,12,true)]=some (.normal,[decide ((↑(i+1):Int)<(L.length:Int))=true,1<=i+1,i+1<=1000000000,i+1-1<L.length,i+1-1<L.length,i+1<L.length,i+1<L.length,4+4<=10000,decide (jp (L.getD (i+1-1) default).1 (L.getD (i+1) default).1>=0)=false,yt ((↑(i+1):Int)+1),ct (W0 w) (.ls (lst l0 100 6 L fR)) (.ls (lst l0 100 6 L fR)),ii (↑(i+1+1):Int)=Value.int IntKind.i64 ((↑(i+1):Int)+1)]):=by kernel_rfl
theorem rlb2 {w:World}(l0:Nat) (L:List R2) (i:Nat):rlbTe0 w l0 L i [(14,7,false),(14,12,true)]=some (.exit 0,[decide ((↑(i+1):Int)<(L.length:Int))=false,ct (W0 w) (.ls (lst l0 100 6 L fR)) (.ls (lst l0 100 6 L fR)),ii (↑(i+1):Int)=ii (↑(i+1):Int)]):=by kernel_rfl
theorem cko (hN:cM) (l0:Nat) (L:List R2) (hl:L.length<=1000000):uB 14 [pM l0 100 L] (fun _=>rB (okL L)):=by
 intro w vs hG hp;refine uq hG hN (ex:=[]) kz (fn:=Tryz.f14) Tryz.func14 (c:=codeOf Tryz.f14) (by kernel_rfl) (args:=[pM l0 100 L]) (by kernel_rfl) hp (fun hR _ hA=>?_);refine Gz (rla l0 L) (hR _ rfl) hA (fun a w1 hA=>uk ?_);refine uC (fun i=>rlI l0 100 L i) (fun i=>i<=L.length/\∀ k,k<i->up L k=true) (fun i=>L.length-i) (L:=kLine14_n) (ks:=kLine14_nt) (id:=0) (c:=kj kLine14_n) (by kernel_rfl) 0 ⟨zero_le _,by omega⟩ hA (fun i a2 w2 hi hA=>?_);have rest:∀ a w1,At (W0 w) 48 (rlI l0 100 L i) a w1->asc L=true->after Fence.wide 0 Tryz.prog kLine14_nt (Ret (W0 w) Tryz.f14 (Res (W0 w) (rB (okL L)))) .normal a w1:=by
  intro a w1 hA hs;rcases eq_false_or_eq_true (decide ((L.length:Int)>=2)) with q25|q25
  ·skip
   have p25:=of_decide_eq_true q25;rcases eq_false_or_eq_true (decide ((L.length:Int)<=60)) with q29|q29
   ·skip
    have p29:=of_decide_eq_true q29;rcases eq_false_or_eq_true (decide (yAt L 0=0)) with q36|q36
    ·skip
     have p36:=of_decide_eq_true q36;rcases eq_false_or_eq_true (decide (yAt L (L.length-1)=0)) with q46|q46
     ·skip
      have p46:=of_decide_eq_true q46;refine Gy (rle0 l0 L i) (hR _ rfl) hA (by (repeat' (first|exact trivial|apply And.intro))<;>first|exact ct.refl _ _|exact fun _ _=>cC.refl _ _|exact co rfl|exact cj _ _|exact cn _ _|(with_reducible assumption)|omega|with_reducible rfl|(simp only[cq];omega)|(intro j hj;exact absurd hj (not_lt_zero _))|(refine congrArg Value.bool ((Zx hs).trans ?_);rw[q25];first|rfl|(rw[q29];first|rfl|(rw[q36];first|rfl|(rw[q46];rfl))))|rfl)
     ·skip
      have p46:=of_decide_eq_false q46;refine Gy (rle1 l0 L i) (hR _ rfl) hA (by (repeat' (first|exact trivial|apply And.intro))<;>first|exact ct.refl _ _|exact fun _ _=>cC.refl _ _|exact co rfl|exact cj _ _|exact cn _ _|(with_reducible assumption)|omega|with_reducible rfl|(simp only[cq];omega)|(intro j hj;exact absurd hj (not_lt_zero _))|(refine congrArg Value.bool ((Zx hs).trans ?_);rw[q25];first|rfl|(rw[q29];first|rfl|(rw[q36];first|rfl|(rw[q46];rfl))))|rfl)
    ·skip
     have p36:=of_decide_eq_false q36;refine Gy (rle2 l0 L i) (hR _ rfl) hA (by (repeat' (first|exact trivial|apply And.intro))<;>first|exact ct.refl _ _|exact fun _ _=>cC.refl _ _|exact co rfl|exact cj _ _|exact cn _ _|(with_reducible assumption)|omega|with_reducible rfl|(simp only[cq];omega)|(intro j hj;exact absurd hj (not_lt_zero _))|(refine congrArg Value.bool ((Zx hs).trans ?_);rw[q25];first|rfl|(rw[q29];first|rfl|(rw[q36];first|rfl|(rw[q46];rfl))))|rfl)
   ·skip
    have p29:=of_decide_eq_false q29;refine Gy (rle3 l0 L i) (hR _ rfl) hA (by (repeat' (first|exact trivial|apply And.intro))<;>first|exact ct.refl _ _|exact fun _ _=>cC.refl _ _|exact co rfl|exact cj _ _|exact cn _ _|(with_reducible assumption)|omega|with_reducible rfl|(simp only[cq];omega)|(intro j hj;exact absurd hj (not_lt_zero _))|(refine congrArg Value.bool ((Zx hs).trans ?_);rw[q25];first|rfl|(rw[q29];first|rfl|(rw[q36];first|rfl|(rw[q46];rfl))))|rfl)
  ·skip
   have p25:=of_decide_eq_false q25;refine Gy (rle4 l0 L i) (hR _ rfl) hA (by (repeat' (first|exact trivial|apply And.intro))<;>first|exact ct.refl _ _|exact fun _ _=>cC.refl _ _|exact co rfl|exact cj _ _|exact cn _ _|(with_reducible assumption)|omega|with_reducible rfl|(simp only[cq];omega)|(intro j hj;exact absurd hj (not_lt_zero _))|(refine congrArg Value.bool ((Zx hs).trans ?_);rw[q25];first|rfl|(rw[q29];first|rfl|(rw[q36];first|rfl|(rw[q46];rfl))))|rfl)
 rcases eq_false_or_eq_true (decide (((i+1:Nat):Int)<(L.length:Int))) with q7|q7
 ·skip
  have p7:=of_decide_eq_true q7;rcases eq_false_or_eq_true (decide (jp (xAt L i) (xAt L (i+1))>=0)) with q22|q22
  ·skip
   have p22:=of_decide_eq_true q22;have e0:=congrArg Value.bool (okl_no (i:=i) (by omega) (up_ge q22));refine Gy (rlb0 l0 L i) (hR _ rfl) hA
  ·skip
   have p22:=of_decide_eq_false q22;refine Gz (rlb1 l0 L i) (hR _ rfl) hA (fun aT wT hT=>?_);exact jY (by kernel_rfl) ⟨i+1,⟨by omega,fun k hk=>by rcases Nat.lt_succ_iff_lt_or_eq.1 hk with h|rfl;exact hi.2 k h;exact up_ge q22⟩,hT,by omega⟩
 ·skip
  have p7:=of_decide_eq_false q7;refine Gz (rlb2 l0 L i) (hR _ rfl) hA (fun aT wT hT=>?_);refine ki _ (by kernel_rfl) ?_;exact rest _ _ hT (cdE fun k hk=>hi.2 k (by omega))
theorem ccs {L:List R2}(h:anyBad L=false):okV L=(decide ((L.length:Int)>=1)&&decide ((L.length:Int)<=20)&&decide (yAt L (L.length-1)=0)):=by
 unfold okV;rw[h,cey,Bool.not_false,Bool.and_true]
theorem okv_no {L:List R2}{i:Nat}(hi:i<L.length) (h:bad L i=true):okV L=false:=by
 unfold okV;rw[cjW hi h,Bool.not_true,Bool.and_false];rfl
theorem bad_1 {L:List R2}{i:Nat}(h:decide (jg (xAt L i)<0)=true):bad L i=true:=by unfold bad;rw[h];rfl
theorem bad_2 {L:List R2}{i:Nat}(h:decide (jg (yAt L i)<0)=true):bad L i=true:=by unfold bad;rw[h,Bool.or_true]
theorem bad_0 {L:List R2}{i:Nat}(h:decide (jg (xAt L i)<0)=false) (h':decide (jg (yAt L i)<0)=false):bad L i=false:=by unfold bad;rw[h,h'];rfl
abbrev rvI (lo ty:Nat) (L:List R2) (i:Nat):St Dx:=⟨1,[(0,.val (.one (.sym 0 0))),(3,.val (.one (.lit (ii (i:Int)))))],[(0,.cls (.ls (lst lo ty 6 L fR)))],[]⟩
theorem rva {w:World}(l0:Nat) (L:List R2):run w ⟨[],[],[]⟩ 15 44 kVehicle15_ (stA [pM l0 105 L]) (rvI l0 105 L 0)=some (.normal,[ct (W0 w) (.ls (lst l0 105 6 L fR)) (.ls (lst l0 105 6 L fR)),ii (↑0:Int)=Value.int IntKind.i64 0]):=by kernel_rfl
noncomputable abbrev rveR (w:World) (l0:Nat) (L:List R2) (i:Nat) (o:List (Nat×Nat×Bool)):=runR w ⟨o,[],[]⟩ 15 44 Tryz.f15 kVehicle15_nt (rvI l0 105 L i) (rB (okV L))
theorem rve0 {w:World}(l0:Nat) (L:List R2) (i:Nat):rveR w l0 L i [(15,28,true),(15,32,true),(15,42,true),(15,38,true)]=some (.ret,[decide ((L.length:Int)>=1)=true,decide ((L.length:Int)<=20)=true,1<=L.length,L.length<=1000000000,L.length-1<L.length,L.length-1<L.length,decide ((L.getD (L.length-1) default).2=0)=true,Value.bool (okV L)=Value.bool true]):=by kernel_rfl
theorem rve1 {w:World}(l0:Nat) (L:List R2) (i:Nat):rveR w l0 L i [(15,28,true),(15,32,true),(15,42,false),(15,38,true)]=some (.ret,[decide ((L.length:Int)>=1)=true,decide ((L.length:Int)<=20)=true,1<=L.length,L.length<=1000000000,L.length-1<L.length,L.length-1<L.length,decide ((L.getD (L.length-1) default).2=0)=false,Value.bool (okV L)=Value.bool false]):=by kernel_rfl
theorem rve2 {w:World}(l0:Nat) (L:List R2) (i:Nat):rveR w l0 L i [(15,28,true),(15,32,false),(15,38,true)]=some (.ret,[decide ((L.length:Int)>=1)=true,decide ((L.length:Int)<=20)=false,Value.bool (okV L)=Value.bool false]):=by kernel_rfl
theorem rve3 {w:World}(l0:Nat) (L:List R2) (i:Nat):rveR w l0 L i [(15,28,false),(15,38,true)]=some (.ret,[decide ((L.length:Int)>=1)=false,Value.bool (okV L)=Value.bool false]):=by kernel_rfl
noncomputable abbrev rvbTe0 (w:World) (l0:Nat) (L:List R2) (i:Nat) (o:List (Nat×Nat×Bool)):=run w ⟨o,[],[]⟩ 15 44 kVehicle15_nl (rvI l0 105 L i) (rvI l0 105 L i)
noncomputable abbrev rvbTnal (w:World) (l0:Nat) (L:List R2) (i:Nat) (o:List (Nat×Nat×Bool)):=run w ⟨o,[],[]⟩ 15 44 kVehicle15_nl (rvI l0 105 L i) (rvI l0 105 L (i+1))
noncomputable abbrev rvbR (w:World) (l0:Nat) (L:List R2) (i:Nat) (o:List (Nat×Nat×Bool)):=runR w ⟨o,[],[]⟩ 15 44 Tryz.f15 kVehicle15_nl (rvI l0 105 L i) (rB (okV L))
theorem rvb0 {w:World}(l0:Nat) (L:List R2) (i:Nat):rvbR w l0 L i [(15,7,true),(15,16,true)]=some (.ret,[decide ((i:Int)<(L.length:Int))=true,i<L.length,i<L.length,decide (jg (L.getD i default).1<0)=true,Value.bool (okV L)=Value.bool false]):=by kernel_rfl
theorem rvb1 {w:World}(l0:Nat) (L:List R2) (i:Nat):rvbR w l0 L i [(15,7,true),(15,16,false),(15,24,true)]=some (.ret,[decide ((i:Int)<(L.length:Int))=true,i<L.length,i<L.length,decide (jg (L.getD i default).1<0)=false,i<L.length,i<L.length,decide (jg (L.getD i default).2<0)=true,Value.bool (okV L)=Value.bool false]):=by kernel_rfl
theorem rvb2 {w:World}(l0:Nat) (L:List R2) (i:Nat):rvbTnal w l0 L i [(15,7,true),(15,16,false),(15,24,false)]=some (.normal,[decide ((i:Int)<(L.length:Int))=true,i<L.length,i<L.length,decide (jg (L.getD i default).1<0)=false,i<L.length,i<L.length,decide (jg (L.getD i default).2<0)=false,yt ((i:Int)+1),ct (W0 w) (.ls (lst l0 105 6 L fR)) (.ls (lst l0 105 6 L fR)),ii (↑(i+1):Int)=Value.int IntKind.i64 ((i:Int)+1)]):=by kernel_rfl
theorem rvb3 {w:World}(l0:Nat) (L:List R2) (i:Nat):rvbTe0 w l0 L i [(15,7,false)]=some (.exit 0,[decide ((i:Int)<(L.length:Int))=false,ct (W0 w) (.ls (lst l0 105 6 L fR)) (.ls (lst l0 105 6 L fR)),ii (i:Int)=ii (i:Int)]):=by kernel_rfl
theorem cdJ (hN:cM) (l0:Nat) (L:List R2) (hl:L.length<=1000000):uB 15 [pM l0 105 L] (fun _=>rB (okV L)):=by
 intro w vs hG hp;refine uq hG hN (ex:=[]) kz (fn:=Tryz.f15) Tryz.func15 (c:=codeOf Tryz.f15) (by kernel_rfl) (args:=[pM l0 105 L]) (by kernel_rfl) hp (fun hR _ hA=>?_);refine Gz (rva l0 L) (hR _ rfl) hA (fun a w1 hA=>uk ?_);refine uC (fun i=>rvI l0 105 L i) (fun i=>i<=L.length/\∀ k,k<i->bad L k=false) (fun i=>L.length-i) (L:=kVehicle15_n) (ks:=kVehicle15_nt) (id:=0) (c:=kj kVehicle15_n) (by kernel_rfl) 0 ⟨zero_le _,by omega⟩ hA (fun i a2 w2 hi hA=>?_);have rest:∀ a w1,At (W0 w) 44 (rvI l0 105 L i) a w1->anyBad L=false->after Fence.wide 0 Tryz.prog kVehicle15_nt (Ret (W0 w) Tryz.f15 (Res (W0 w) (rB (okV L)))) .normal a w1:=by
  intro a w1 hA hs;rcases eq_false_or_eq_true (decide ((L.length:Int)>=1)) with q28|q28
  ·skip
   have p28:=of_decide_eq_true q28;rcases eq_false_or_eq_true (decide ((L.length:Int)<=20)) with q32|q32
   ·skip
    have p32:=of_decide_eq_true q32;rcases eq_false_or_eq_true (decide (yAt L (L.length-1)=0)) with q42|q42
    ·skip
     have p42:=of_decide_eq_true q42;refine Gy (rve0 l0 L i) (hR _ rfl) hA (by (repeat' (first|exact trivial|apply And.intro))<;>first|exact ct.refl _ _|exact fun _ _=>cC.refl _ _|exact co rfl|exact cj _ _|exact cn _ _|(with_reducible assumption)|omega|with_reducible rfl|(simp only[cq];omega)|(intro j hj;exact absurd hj (not_lt_zero _))|(refine congrArg Value.bool ((ccs hs).trans ?_);rw[q28];first|rfl|(rw[q32];first|rfl|(rw[q42];rfl)))|rfl)
    ·skip
     have p42:=of_decide_eq_false q42;refine Gy (rve1 l0 L i) (hR _ rfl) hA (by (repeat' (first|exact trivial|apply And.intro))<;>first|exact ct.refl _ _|exact fun _ _=>cC.refl _ _|exact co rfl|exact cj _ _|exact cn _ _|(with_reducible assumption)|omega|with_reducible rfl|(simp only[cq];omega)|(intro j hj;exact absurd hj (not_lt_zero _))|(refine congrArg Value.bool ((ccs hs).trans ?_);rw[q28];first|rfl|(rw[q32];first|rfl|(rw[q42];rfl)))|rfl)
   ·skip
    have p32:=of_decide_eq_false q32;refine Gy (rve2 l0 L i) (hR _ rfl) hA (by (repeat' (first|exact trivial|apply And.intro))<;>first|exact ct.refl _ _|exact fun _ _=>cC.refl _ _|exact co rfl|exact cj _ _|exact cn _ _|(with_reducible assumption)|omega|with_reducible rfl|(simp only[cq];omega)|(intro j hj;exact absurd hj (not_lt_zero _))|(refine congrArg Value.bool ((ccs hs).trans ?_);rw[q28];first|rfl|(rw[q32];first|rfl|(rw[q42];rfl)))|rfl)
  ·skip
   have p28:=of_decide_eq_false q28;refine Gy (rve3 l0 L i) (hR _ rfl) hA (by (repeat' (first|exact trivial|apply And.intro))<;>first|exact ct.refl _ _|exact fun _ _=>cC.refl _ _|exact co rfl|exact cj _ _|exact cn _ _|(with_reducible assumption)|omega|with_reducible rfl|(simp only[cq];omega)|(intro j hj;exact absurd hj (not_lt_zero _))|(refine congrArg Value.bool ((ccs hs).trans ?_);rw[q28];first|rfl|(rw[q32];first|rfl|(rw[q42];rfl)))|rfl)
 rcases eq_false_or_eq_true (decide ((i:Int)<(L.length:Int))) with q7|q7
 ·skip
  have p7:=of_decide_eq_true q7;rcases eq_false_or_eq_true (decide (jg (xAt L i)<0)) with q16|q16
  ·skip
   have p16:=of_decide_eq_true q16;have e0:=congrArg Value.bool (okv_no (i:=i) (by omega) (bad_1 q16));refine Gy (rvb0 l0 L i) (hR _ rfl) hA
  ·skip
   have p16:=of_decide_eq_false q16;rcases eq_false_or_eq_true (decide (jg (yAt L i)<0)) with q24|q24
   ·skip
    have p24:=of_decide_eq_true q24;have e0:=congrArg Value.bool (okv_no (i:=i) (by omega) (bad_2 q24));refine Gy (rvb1 l0 L i) (hR _ rfl) hA
   ·skip
    have p24:=of_decide_eq_false q24;refine Gz (rvb2 l0 L i) (hR _ rfl) hA (fun aT wT hT=>?_);exact jY (by kernel_rfl) ⟨i+1,⟨by omega,fun k hk=>by rcases Nat.lt_succ_iff_lt_or_eq.1 hk with h|rfl;exact hi.2 k h;exact bad_0 q16 q24⟩,hT,by omega⟩
 ·skip
  have p7:=of_decide_eq_false q7;refine Gz (rvb3 l0 L i) (hR _ rfl) hA (fun aT wT hT=>?_);refine ki _ (by kernel_rfl) ?_;exact rest _ _ hT (Bool.eq_false_iff.2 fun h=>by rw[ciL fun k hk=>hi.2 k (by omega)] at h;cases h)
end Pe
namespace Pe
noncomputable def kValue22_:List Kp:=[.code (codeOf Tryz.f22)]
noncomputable def kValue22_n:List Kp:=next kValue22_
noncomputable def kValue22_nl:List Kp:=[.code (kj kValue22_n)]
noncomputable def kValue22_nt:List Kp:=kValue22_n.tail
section
variable {L:List R2}{x:Rat}
theorem pos_lt {k:Nat}(h:k<pos L x):xAt L k<x:=by
 have h1:k<L.length:=lt_of_lt_of_le h (cfr L x);have h2:=List.not_of_lt_findIdx h;rw[xAt,Uk h1];refine JI.1 (Decidable.byContradiction fun h3=>?_);rw[decide_eq_true h3] at h2;cases h2
theorem pos_ge (h:pos L x<L.length):x<=xAt L (pos L x):=by
 have h2:=List.findIdx_getElem (w:=h);have h3:=of_decide_eq_true h2;rw[xAt,Uk h];exact Rat.not_lt.1 fun h4=>h3 (JI.2 h4)
theorem pos_of {i:Nat}(hi:i<=L.length) (h1:∀ k,k<i->xAt L k<x) (h2:i<L.length->x<=xAt L i):pos L x=i :=
 pos_is hi (fun k hk=>JI.2 (h1 k hk)) (fun h h3=>by have:=JI.1 h3;have:=h2 h;grind)
theorem fnd_of {i:Nat}(hp:pos L x=i) (hi:i<L.length) (h:xAt L i=x):fnd L x=true:=by
 unfold fnd;rw[hp,decide_eq_true hi,decide_eq_true (ZN.2 h)];rfl
theorem fnd_no {i:Nat}(hp:pos L x=i) (h:xAt L i≠x):fnd L x=false:=by
 unfold fnd;rw[hp,decide_eq_false (fun h1=>h (ZN.1 h1)),Bool.and_false]
theorem YG {i:Nat}(ha:asc L=true) (hi:i+1<L.length) (h1:xAt L i<=x) (h2:x<=xAt L (i+1)):yAt L i+(x-xAt L i)/(xAt L (i+1)-xAt L i)*(yAt L (i+1)-yAt L i)=kS L x:=by
 have hu:=ceZ ha hi;by_cases h3:xAt L i=x
 ·have hp:pos L x=i:=pos_of (by omega) (fun k hk=>by rw[← h3];exact cbV ha hk (by omega)) (fun _=>by rw[h3];exact Rat.le_refl);have hf:=fnd_of hp (by omega) h3;rw[← val_t hf,hp,h3];have:x-x=0:=by grind
  rw[this,Rat.div_def];grind
 ·have hp:pos L x=i+1:=pos_of (by omega) (fun k hk=>by have:=asc_le ha (i:=k) (j:=i) (by omega) (by omega);grind) (fun _=>h2);by_cases h4:xAt L (i+1)=x
  ·have hf:=fnd_of hp (by omega) h4;rw[← val_t hf,hp,h4];have hne:x-xAt L i≠0:=by grind
   grind
  ·have hf:=fnd_no hp h4;rw[← cgd hf (by omega) (by omega),hp];show _=yAt L i+(yAt L (i+1)-yAt L i)/(xAt L (i+1)-xAt L i)*(x-xAt L i);rw[Rat.div_def,Rat.div_def];grind
theorem cjk (ha:asc L=true) (hn:2<=L.length) (h:∀ k,k+1<L.length->¬ (xAt L k<=x/\x<=xAt L (k+1))):0=kS L x:=by
 have hl:=cfr L x;have hf:fnd L x=false:=by
  refine Bool.eq_false_iff.2 fun hf=>?_;have h1:=fnd_lt hf;have h2:xAt L (pos L x)=x:=by
   unfold fnd at hf;rw[and_eq_true] at hf;exact ZN.1 (of_decide_eq_true hf.2)
  by_cases h3:pos L x+1<L.length
  ·refine h _ h3 ⟨by rw[h2];exact Rat.le_refl,?_⟩;have:=ceZ ha h3;grind
  ·have h4:pos L x-1+1=pos L x:=by omega
   refine h (pos L x-1) (by omega) ⟨Rat.le_of_lt (pos_lt (by omega)),?_⟩;rw[h4,h2];exact Rat.le_refl
 refine cgP hf ?_;by_cases h0:pos L x=0
 ·exact .inl h0
 ·refine .inr (Decidable.byContradiction fun h1=>?_);have h4:pos L x-1+1=pos L x:=by omega
  refine h (pos L x-1) (by omega) ⟨Rat.le_of_lt (pos_lt (by omega)),?_⟩;rw[h4];exact pos_ge (by omega)
end
abbrev rwI (lo tp tr:Nat) (L:List R2) (x:Rat) (m i:Nat):St Dx:=⟨4,[(0,.val (.one (.sym 0 0))),(3,.val (.one (.ptr 2 0))),(4,.val (.one (.ptr 3 0))),(5,.val (.one (.lit (ii ((i+1:Nat):Int)))))],[(0,.cls (.ls (lst lo tp 6 L fR))),(1,.cls (.rq x m)),(2,.blk tr [.sym 1 0,.sym 1 1,.sym 1 2] none),(3,.blk tr [.lit (.bool false),.lit (.slice none 0 0),.lit (.slice none 0 0)] none)],[]⟩
theorem rwa {w:World}(l0:Nat) (L:List R2) (x:Rat) (m:Nat):run w ⟨[],[],[]⟩ 22 57 kValue22_ (stA [pM l0 100 L,pR x m]) (rwI l0 100 44 L x m 0)=some (.normal,[ct (W0 w) (.ls (lst l0 100 6 L fR)) (.ls (lst l0 100 6 L fR)),ct (W0 w) (.rq x m) (.rq x m),Value.bool false=Value.bool false,Value.slice none 0 0=Value.slice none 0 0,Value.slice none 0 0=Value.slice none 0 0,0=0,0=0,ii (↑(0+1):Int)=Value.int IntKind.i64 1]):=by kernel_rfl
theorem rwe {w:World}(l0:Nat) (L:List R2) (x:Rat) (m i:Nat):runR w ⟨[],[],[]⟩ 22 57 Tryz.f22 kValue22_nt (rwI l0 100 44 L x m i) [pR (kS L x) (m+60)]=some (.ret,[yt 0,ct (W0 w) (.rq (kS L x) (m+60)) (.rq (↑0:Rat) 1),ku (W0 w) (.rq (kS L x) (m+60))]):=by kernel_rfl
noncomputable abbrev rwbTe0 (w:World) (l0:Nat) (L:List R2) (x:Rat) (m i:Nat) (o:List (Nat×Nat×Bool)):=run w ⟨o,[],[]⟩ 22 57 kValue22_nl (rwI l0 100 44 L x m i) (rwI l0 100 44 L x m i)
noncomputable abbrev rwbTnal (w:World) (l0:Nat) (L:List R2) (x:Rat) (m i:Nat) (o:List (Nat×Nat×Bool)):=run w ⟨o,[],[]⟩ 22 57 kValue22_nl (rwI l0 100 44 L x m i) (rwI l0 100 44 L x m (i+1))
noncomputable abbrev rwbR (w:World) (l0:Nat) (L:List R2) (x:Rat) (m i:Nat) (o:List (Nat×Nat×Bool)):=runR w ⟨o,[],[]⟩ 22 57 Tryz.f22 kValue22_nl (rwI l0 100 44 L x m i) [pR (kS L x) (m+60)]
theorem rwb0 {w:World}(l0:Nat) (L:List R2) (x:Rat) (m i:Nat):rwbR w l0 L x m i [(22,12,true),(22,28,true),(22,34,true),(22,17,true)]=some (.ret,[decide ((↑(i+1):Int)<(L.length:Int))=true,1<=i+1,i+1<=1000000000,i+1-1<L.length,i+1-1<L.length,i+1<L.length,i+1<L.length,4+m<=10000,decide (jp (L.getD (i+1-1) default).1 x<=0)=true,m+4<=10000,decide (jp x (L.getD (i+1) default).1<=0)=true,m+4+1<=10000,4+4+1<=10000,((L.getD (i+1) default).1-(L.getD (i+1-1) default).1).1≠0/\m+4+1+(4+4+1)<=10000,4+4+1<=10000,m+4+1+(4+4+1)+(4+4+1)<=10000,4+(m+4+1+(4+4+1)+(4+4+1))+1<=10000,ct (W0 w) (.rq (kS L x) (m+60)) (.rq ((L.getD (i+1-1) default).2+(x-(L.getD (i+1-1) default).1)/((L.getD (i+1) default).1-(L.getD (i+1-1) default).1)*((L.getD (i+1) default).2-(L.getD (i+1-1) default).2)) (4+(m+4+1+(4+4+1)+(4+4+1))+1)),ku (W0 w) (.rq (kS L x) (m+60))]):=by kernel_rfl
theorem rwb1 {w:World}(l0:Nat) (L:List R2) (x:Rat) (m i:Nat):rwbTnal w l0 L x m i [(22,12,true),(22,28,true),(22,34,false),(22,17,true)]=some (.normal,[decide ((↑(i+1):Int)<(L.length:Int))=true,1<=i+1,i+1<=1000000000,i+1-1<L.length,i+1-1<L.length,i+1<L.length,i+1<L.length,4+m<=10000,decide (jp (L.getD (i+1-1) default).1 x<=0)=true,m+4<=10000,decide (jp x (L.getD (i+1) default).1<=0)=false,yt ((↑(i+1):Int)+1),ct (W0 w) (.ls (lst l0 100 6 L fR)) (.ls (lst l0 100 6 L fR)),ct (W0 w) (.rq x m) (.rq x m),Value.bool false=Value.bool false,Value.slice none 0 0=Value.slice none 0 0,Value.slice none 0 0=Value.slice none 0 0,0=0,0=0,ii (↑(i+1+1):Int)=Value.int IntKind.i64 ((↑(i+1):Int)+1)]):=by kernel_rfl
theorem rwb2 {w:World}(l0:Nat) (L:List R2) (x:Rat) (m i:Nat):rwbTnal w l0 L x m i [(22,12,true),(22,28,false),(22,17,true)]=some (.normal,[decide ((↑(i+1):Int)<(L.length:Int))=true,1<=i+1,i+1<=1000000000,i+1-1<L.length,i+1-1<L.length,i+1<L.length,i+1<L.length,4+m<=10000,decide (jp (L.getD (i+1-1) default).1 x<=0)=false,yt ((↑(i+1):Int)+1),ct (W0 w) (.ls (lst l0 100 6 L fR)) (.ls (lst l0 100 6 L fR)),ct (W0 w) (.rq x m) (.rq x m),Value.bool false=Value.bool false,Value.slice none 0 0=Value.slice none 0 0,Value.slice none 0 0=Value.slice none 0 0,0=0,0=0,ii (↑(i+1+1):Int)=Value.int IntKind.i64 ((↑(i+1):Int)+1)]):=by kernel_rfl
theorem rwb3 {w:World}(l0:Nat) (L:List R2) (x:Rat) (m i:Nat):rwbTe0 w l0 L x m i [(22,12,false),(22,17,true)]=some (.exit 0,[decide ((↑(i+1):Int)<(L.length:Int))=false,ct (W0 w) (.ls (lst l0 100 6 L fR)) (.ls (lst l0 100 6 L fR)),ct (W0 w) (.rq x m) (.rq x m),Value.bool false=Value.bool false,Value.slice none 0 0=Value.slice none 0 0,Value.slice none 0 0=Value.slice none 0 0,0=0,0=0,ii (↑(i+1):Int)=ii (↑(i+1):Int)]):=by kernel_rfl
theorem cbv (hN:cM) (l0:Nat) (L:List R2) (x:Rat) (m:Nat) (hl:L.length<=1000000) (hm:m<=5000) (ha:asc L=true) (hn:2<=L.length):uB 22 [pM l0 100 L,pR x m] (fun _=>[pR (kS L x) (m+60)]):=by
 intro w vs hG hp;refine uq hG hN (ex:=[]) kz (fn:=Tryz.f22) Tryz.func22 (c:=codeOf Tryz.f22) (by kernel_rfl) (args:=[pM l0 100 L,pR x m]) (by kernel_rfl) hp (fun hR _ hA=>?_);refine Gz (rwa l0 L x m) (hR _ rfl) hA (fun a w1 hA=>uk ?_);refine uC (fun i=>rwI l0 100 44 L x m i) (fun i=>i<L.length/\∀ k,k<i->¬ (xAt L k<=x/\x<=xAt L (k+1))) (fun i=>L.length-i) (L:=kValue22_n) (ks:=kValue22_nt) (id:=0) (c:=kj kValue22_n) (by kernel_rfl) 0 ⟨by omega,fun k hk=>absurd hk (not_lt_zero _)⟩ hA (fun i a2 w2 hi hA=>?_);have hz:=fun h:i+1<L.length=>ccF ha h (Nat.succ_ne_zero i);rcases eq_false_or_eq_true (decide (((i+1:Nat):Int)<(L.length:Int))) with q12|q12
 ·skip
  have p12:=of_decide_eq_true q12;rcases eq_false_or_eq_true (decide (jp (xAt L i) x<=0)) with q28|q28
  ·skip
   have p28:=of_decide_eq_true q28;rcases eq_false_or_eq_true (decide (jp x (xAt L (i+1))<=0)) with q34|q34
   ·skip
    have p34:=of_decide_eq_true q34
    first|have e0:=hz (by omega)|skip
    refine Gy (rwb0 l0 L x m i) (hR _ rfl) hA (by (repeat' (first|exact trivial|apply And.intro))<;>first|exact ct.refl _ _|exact fun _ _=>cC.refl _ _|exact co rfl|exact cj _ _|exact cn _ _|(with_reducible assumption)|omega|with_reducible rfl|(simp only[cq];omega)|(intro j hj;exact absurd hj (not_lt_zero _))|exact q28|exact q34|exact ZA (YG ha (by omega) (uL.1 p28) (uL.1 p34)) (by omega)|rfl)
   ·skip
    have p34:=of_decide_eq_false q34
    first|have e0:=hz (by omega)|skip
    refine Gz (rwb1 l0 L x m i) (hR _ rfl) hA (fun aT wT hT=>?_) (by (repeat' (first|exact trivial|apply And.intro))<;>first|exact ct.refl _ _|exact fun _ _=>cC.refl _ _|exact co rfl|exact cj _ _|exact cn _ _|(with_reducible assumption)|omega|with_reducible rfl|(simp only[cq];omega)|(intro j hj;exact absurd hj (not_lt_zero _))|exact q28|exact q34|exact ZA (YG ha (by omega) (uL.1 p28) (uL.1 p34)) (by omega)|rfl);exact jY (by kernel_rfl) ⟨i+1,⟨by omega,fun k hk=>by rcases Nat.lt_succ_iff_lt_or_eq.1 hk with h|rfl;exact hi.2 k h;exact fun h=>by first|exact p28 (uL.2 h.1)|exact p34 (uL.2 h.2)⟩,hT,by omega⟩
  ·skip
   have p28:=of_decide_eq_false q28
   first|have e0:=hz (by omega)|skip
   refine Gz (rwb2 l0 L x m i) (hR _ rfl) hA (fun aT wT hT=>?_) (by (repeat' (first|exact trivial|apply And.intro))<;>first|exact ct.refl _ _|exact fun _ _=>cC.refl _ _|exact co rfl|exact cj _ _|exact cn _ _|(with_reducible assumption)|omega|with_reducible rfl|(simp only[cq];omega)|(intro j hj;exact absurd hj (not_lt_zero _))|exact q28|exact q34|exact ZA (YG ha (by omega) (uL.1 p28) (uL.1 p34)) (by omega)|rfl);exact jY (by kernel_rfl) ⟨i+1,⟨by omega,fun k hk=>by rcases Nat.lt_succ_iff_lt_or_eq.1 hk with h|rfl;exact hi.2 k h;exact fun h=>by first|exact p28 (uL.2 h.1)|exact p34 (uL.2 h.2)⟩,hT,by omega⟩
 ·skip
  have p12:=of_decide_eq_false q12
  first|have e0:=hz (by omega)|skip
  refine Gz (rwb3 l0 L x m i) (hR _ rfl) hA (fun aT wT hT=>?_) (by (repeat' (first|exact trivial|apply And.intro))<;>first|exact ct.refl _ _|exact fun _ _=>cC.refl _ _|exact co rfl|exact cj _ _|exact cn _ _|(with_reducible assumption)|omega|with_reducible rfl|(simp only[cq];omega)|(intro j hj;exact absurd hj (not_lt_zero _))|exact q28|exact q34|exact ZA (YG ha (by omega) (uL.1 p28) (uL.1 p34)) (by omega)|rfl);refine ki _ (by kernel_rfl) ?_;refine cA (hR ⟨[],[],[]⟩ rfl) (.inl rfl) (fun _=>rfl) (fn:=Tryz.f22) (rwe l0 L x m i) ?_ hT (fun _ _ h=>h);have hv:=cjk (x:=x) ha hn (fun k hk=>hi.2 k (by omega))
  (repeat' (first|exact trivial|apply And.intro))<;>first|exact ct.refl _ _|exact fun _ _=>cC.refl _ _|exact co rfl|exact cj _ _|exact cn _ _|(with_reducible assumption)|omega|with_reducible rfl|(simp only[cq];omega)|(intro j hj;exact absurd hj (not_lt_zero _))|exact ZA hv (by omega)|rfl
end Pe
namespace Pe
noncomputable def kBack73_:List Kp:=[.code (codeOf Tryz.f73)]
noncomputable def kBack73_n:List Kp:=next kBack73_
noncomputable def kBack73_nl:List Kp:=[.code (kj kBack73_n)]
noncomputable def kEffect23_:List Kp:=[.code (codeOf Tryz.f23)]
noncomputable def kEffect23_n:List Kp:=next kEffect23_
noncomputable def kEffect23_nl:List Kp:=[.code (kj kEffect23_n)]
noncomputable def kBack73_nt:List Kp:=kBack73_n.tail
noncomputable def kEffect23_nt:List Kp:=kEffect23_n.tail
abbrev RBk (lo ty:Nat) (V:List R2):Lt Dx:=⟨lo,ty,3,V.length,fun j=>[.cls (.rq (bk V j) (5*j+1))]⟩
abbrev pRB (lo:Nat) (V:List R2):Pat Dx:=.one (.cls (.ls (RBk lo 44 V)))
abbrev rbI (lo ta tr:Nat) (V:List R2) (i:Nat):St Dx:=⟨4,[(0,.val (.one (.sym 0 0))),(3,.val (.one (.fn 1))),(4,.val (.one (.ptr 2 0))),(5,.val (.one (.lit (ii (i:Int)))))],[(0,.cls (.ls (lst lo ta 6 V fR))),(1,.gl tr 3 i (fun j=>[.cls (.rq (bk V j) (5*j+1))])),(2,.blk tr [.sym 3 0,.sym 3 1,.sym 3 2] none),(3,.cls (.rq (bk V i) (5*i+1)))],[]⟩
theorem rba {w:World}(l0:Nat) (V:List R2):run w ⟨[],[],[]⟩ 73 26 kBack73_ (stA [pM l0 105 V]) (rbI l0 105 44 V 0)=some (.normal,[yt 0,ct (W0 w) (.ls (lst l0 105 6 V fR)) (.ls (lst l0 105 6 V fR)),0=0,∀ (j:Nat),j<0->cC (W0 w) [Grp.cls (Dx.rq (bk V j) (5*j+1))] [],ct (W0 w) (.rq (bk V 0) (5*0+1)) (.rq (↑0:Rat) 1),0=0,ii (↑0:Int)=Value.int IntKind.i64 0]):=by kernel_rfl
theorem rbe {w:World}(l0:Nat) (V:List R2):runR w ⟨[],[],[]⟩ 73 26 Tryz.f73 kBack73_nt (rbI l0 105 44 V V.length) [pRB w.heap.size V]=some (.ret,[ct (W0 w) (.ls (RBk w.1.size 44 V)) (.ls { lo:=w.1.size,ty:=44,z:=3,n:=V.length,g:=fun(j:Nat)=>[.cls (.rq (bk V j) (5*j+1))] }),ku (W0 w) (.ls (RBk w.1.size 44 V))]):=by kernel_rfl
noncomputable abbrev rbbTe0 (w:World) (l0:Nat) (V:List R2) (i:Nat) (o:List (Nat×Nat×Bool)):=run w ⟨o,[],[]⟩ 73 26 kBack73_nl (rbI l0 105 44 V i) (rbI l0 105 44 V i)
noncomputable abbrev rbbTnal (w:World) (l0:Nat) (V:List R2) (i:Nat) (o:List (Nat×Nat×Bool)):=run w ⟨o,[],[]⟩ 73 26 kBack73_nl (rbI l0 105 44 V i) (rbI l0 105 44 V (i+1))
theorem rbb0 {w:World}(l0:Nat) (V:List R2) (i:Nat):rbbTnal w l0 V i [(73,11,true)]=some (.normal,[decide ((i:Int)<(V.length:Int))=true,i+1<=1000000,i<V.length,i<V.length,5*i+1+4+1<=10000,yt ((i:Int)+1),ct (W0 w) (.ls (lst l0 105 6 V fR)) (.ls (lst l0 105 6 V fR)),i+1=i+1,∀ (j:Nat),j<i+1->cC (W0 w) [Grp.cls (Dx.rq (bk V j) (5*j+1))] (Yi i (fun(j:Nat)=>[Grp.cls (Dx.rq (bk V j) (5*j+1))]) (fun(x:Nat)=>[Grp.cls (Dx.rq (bk V i) (5*i+1))]) j),ct (W0 w) (.rq (bk V (i+1)) (5*(i+1)+1)) (.rq (bk V i+(V.getD i default).2) (5*i+1+4+1)),0=0,ii (↑(i+1):Int)=Value.int IntKind.i64 ((i:Int)+1)]):=by kernel_rfl
theorem rbb1 {w:World}(l0:Nat) (V:List R2) (i:Nat):rbbTe0 w l0 V i [(73,11,false)]=some (.exit 0,[decide ((i:Int)<(V.length:Int))=false,ct (W0 w) (.ls (lst l0 105 6 V fR)) (.ls (lst l0 105 6 V fR)),i=i,∀ (j:Nat),j<i->cC (W0 w) [Grp.cls (Dx.rq (bk V j) (5*j+1))] [Grp.cls (Dx.rq (bk V j) (5*j+1))],ct (W0 w) (.rq (bk V i) (5*i+1)) (.rq (bk V i) (5*i+1)),0=0,ii (i:Int)=ii (i:Int)]):=by kernel_rfl
theorem cjR (hN:cM) (l0:Nat) (V:List R2) (hv:V.length<=1000):uB 73 [pM l0 105 V] (fun lo=>[pRB lo V]):=by
 intro w vs hG hp;refine uq hG hN (ex:=[]) kz (fn:=Tryz.f73) Tryz.func73 (c:=codeOf Tryz.f73) (by kernel_rfl) (args:=[pM l0 105 V]) (by kernel_rfl) hp (fun hR _ hA=>?_);refine Gz (rba l0 V) (hR _ rfl) hA (fun a w1 hA=>uk ?_);refine uC (fun i=>rbI l0 105 44 V i) (fun i=>i<=V.length) (fun i=>V.length-i) (L:=kBack73_n) (ks:=kBack73_nt) (id:=0) (c:=kj kBack73_n) (by kernel_rfl) 0 (zero_le _) hA (fun i a2 w2 hi hA=>?_);rcases eq_false_or_eq_true (decide ((i:Int)<(V.length:Int))) with q11|q11
 ·skip
  have p11:=of_decide_eq_true q11;refine Gz (rbb0 l0 V i) (hR _ rfl) hA (fun aT wT hT=>?_);exact jY (by kernel_rfl) ⟨i+1,by omega,hT,by omega⟩
 ·skip
  have p11:=of_decide_eq_false q11;refine Gz (rbb1 l0 V i) (hR _ rfl) hA (fun aT wT hT=>?_);refine ki _ (by kernel_rfl) ?_;obtain rfl:i=V.length:=by omega
  refine cA (hR ⟨[],[],[]⟩ rfl) (.inl rfl) (fun _=>rfl) (fn:=Tryz.f73) (rbe l0 V) ?_ hT (fun _ _ h=>h);refine⟨ct.refl _ _,Kk (le_refl _) ?_,trivial⟩;intro j hj d hd;simp [zH] at hd;subst hd;exact cn _ _
def cbM (l0:Nat) (L:List R2):Con
 |[p,.agg [.cls (.rq x m)]]=>some (rr (kS L x) (m+60),[p=pM l0 100 L,m<=5000])
 |_=>none
theorem cft {lo l0:Nat}{w0:World}{L:List R2}(hN:cM) (hG:Gr w0) (hlo:lo<=w0.heap.size) (hl:L.length<=1000000) (ha:asc L=true) (hn:2<=L.length):∀ l r ob,cbM l0 L l=some (r,ob)->jH ob->jz (Cx true lo w0) (.call 22) l r:=by
 intro l r ob h ho;unfold cbM at h;split at h
 ·injection h with h;injection h with h1 h2;subst h1;subst h2
  rw[show _=pM l0 100 L from ho.1];exact(cbv hN l0 L _ _ hl ho.2.1 ha hn).rnum hG hlo (enters_of Tryz.func22 (by kernel_rfl) rfl)
 ·cases h
theorem ciM {lo l0:Nat}{w0:World}{V:List R2}(hN:cM) (hG:Gr w0) (hlo:lo<=w0.heap.size) (hl:V.length<=1000):jz (Cx true lo w0) (.call 73) [pM l0 105 V] (Ym [pRB lo V]) :=
 (cjR hN l0 V hl).ent hG hlo (enters_of Tryz.func73 (by kernel_rfl) rfl) (fun hi h=>⟨_,rfl,UI (L:=RBk lo _ V) h,trivial⟩)
abbrev exR (lo l0 l1:Nat) (L V:List R2):List (Nat×Con):=[(22,cbM l0 L),(73,uX [pM l1 105 V] (Ym [pRB lo V]))]
theorem chk {L:List R2}(h:okL L=true):2<=L.length/\L.length<=60:=by
 unfold okL szI at h;simp only[and_eq_true,decide_eq_true_eq] at h;omega
theorem exR_ok {lo l0 l1:Nat}{w0:World}{L V:List R2}(hN:cM) (hG:Gr w0) (hlo:lo<=w0.heap.size) (hl:L.length<=1000000) (hv:V.length<=1000) (ha:okL L=true):CU true lo w0 (exR lo l0 l1 L V) :=
 cS (cft hN hG hlo hl (Yz ha) (chk ha).1) (cS (jM (ciM hN hG hlo hv)) kz)
abbrev reI (lo l0 l1 tp ta tr:Nat) (L V:List R2) (x:Rat) (i:Nat):St Dx:=⟨8,[(0,.val (.one (.sym 0 0))),(1,.val (.one (.sym 1 0))),(5,.val (.one (.ptr 3 0))),(6,.val (.one (.ptr 4 0))),(7,.val (.one (.ptr 5 0))),(8,.val (.one (.sym 6 0))),(9,.val (.one (.lit (ii (i:Int)))))],[(0,.cls (.ls (lst l0 tp 6 L fR))),(1,.cls (.ls (lst l1 ta 6 V fR))),(2,.cls (.rq x 4)),(3,.blk tr [.sym 2 0,.sym 2 1,.sym 2 2] none),(4,.blk tr [.lit (.bool false),.lit (.slice none 0 0),.lit (.slice none 0 0)] none),(5,.blk tr [.sym 7 0,.sym 7 1,.sym 7 2] none),(6,.cls (.ls (RBk lo tr V))),(7,.cls (.rq (efs L V x i) (204*i+1)))],[]⟩
theorem rea {w:World}(l0 l1:Nat) (L V:List R2) (x:Rat):run w ⟨[],[],exR w.heap.size l0 l1 L V⟩ 23 36 kEffect23_ (stA [pM l0 100 L,pM l1 105 V,pR x 4]) (reI w.heap.size l0 l1 100 105 44 L V x 0)=some (.normal,[yt 0,[Pat.one (Grp.cls (Dx.ls (lst l1 105 6 V fR)))]=[pM l1 105 V],ct (W0 w) (.ls (lst l0 100 6 L fR)) (.ls (lst l0 100 6 L fR)),ct (W0 w) (.ls (lst l1 105 6 V fR)) (.ls (lst l1 105 6 V fR)),ct (W0 w) (.rq x 4) (.rq x 4),Value.bool false=Value.bool false,Value.slice none 0 0=Value.slice none 0 0,Value.slice none 0 0=Value.slice none 0 0,ct (W0 w) (.ls (RBk w.1.size 44 V)) (.ls (RBk w.1.size 44 V)),ct (W0 w) (.rq (efs L V x 0) (204*0+1)) (.rq (↑0:Rat) 1),0=0,0=0,0=0,ii (↑0:Int)=Value.int IntKind.i64 0]):=by kernel_rfl
theorem ree {w:World}(l0 l1:Nat) (L V:List R2) (x:Rat) (i:Nat):runR w ⟨[],[],exR w.heap.size l0 l1 L V⟩ 23 36 Tryz.f23 kEffect23_nt (reI w.heap.size l0 l1 100 105 44 L V x i) [pR (efs L V x i) (204*i+1)]=some (.ret,[ct (W0 w) (.rq (efs L V x i) (204*i+1)) (.rq (efs L V x i) (204*i+1)),ku (W0 w) (.rq (efs L V x i) (204*i+1))]):=by kernel_rfl
noncomputable abbrev rebTe0 (w:World) (l0 l1:Nat) (L V:List R2) (x:Rat) (i:Nat) (o:List (Nat×Nat×Bool)):=run w ⟨o,[],exR w.heap.size l0 l1 L V⟩ 23 36 kEffect23_nl (reI w.heap.size l0 l1 100 105 44 L V x i) (reI w.heap.size l0 l1 100 105 44 L V x i)
noncomputable abbrev rebTnal (w:World) (l0 l1:Nat) (L V:List R2) (x:Rat) (i:Nat) (o:List (Nat×Nat×Bool)):=run w ⟨o,[],exR w.heap.size l0 l1 L V⟩ 23 36 kEffect23_nl (reI w.heap.size l0 l1 100 105 44 L V x i) (reI w.heap.size l0 l1 100 105 44 L V x (i+1))
theorem reb0 {w:World}(l0 l1:Nat) (L V:List R2) (x:Rat) (i:Nat):rebTnal w l0 l1 L V x i [(23,16,true)]=some (.normal,[decide ((i:Int)<(V.length:Int))=true,i<V.length,i<V.length,i<V.length,i<V.length,4+(5*i+1)+1<=10000,Pat.one (Grp.cls (Dx.ls (lst l0 100 6 L fR)))=pM l0 100 L,4+(5*i+1)+1<=5000,4+(4+(5*i+1)+1+60)<=10000,204*i+1+(4+(4+(5*i+1)+1+60))+1<=10000,yt ((i:Int)+1),ct (W0 w) (.ls (lst l0 100 6 L fR)) (.ls (lst l0 100 6 L fR)),ct (W0 w) (.ls (lst l1 105 6 V fR)) (.ls (lst l1 105 6 V fR)),ct (W0 w) (.rq x 4) (.rq x 4),Value.bool false=Value.bool false,Value.slice none 0 0=Value.slice none 0 0,Value.slice none 0 0=Value.slice none 0 0,ct (W0 w) (.ls (RBk w.1.size 44 V)) (.ls (RBk w.1.size 44 V)),ct (W0 w) (.rq (efs L V x (i+1)) (204*(i+1)+1)) (.rq (efs L V x i+(V.getD i default).1*kS L (x-bk V i)) (204*i+1+(4+(4+(5*i+1)+1+60))+1)),0=0,0=0,0=0,ii (↑(i+1):Int)=Value.int IntKind.i64 ((i:Int)+1)]):=by kernel_rfl
theorem reb1 {w:World}(l0 l1:Nat) (L V:List R2) (x:Rat) (i:Nat):rebTe0 w l0 l1 L V x i [(23,16,false)]=some (.exit 0,[decide ((i:Int)<(V.length:Int))=false,ct (W0 w) (.ls (lst l0 100 6 L fR)) (.ls (lst l0 100 6 L fR)),ct (W0 w) (.ls (lst l1 105 6 V fR)) (.ls (lst l1 105 6 V fR)),ct (W0 w) (.rq x 4) (.rq x 4),Value.bool false=Value.bool false,Value.slice none 0 0=Value.slice none 0 0,Value.slice none 0 0=Value.slice none 0 0,ct (W0 w) (.ls (RBk w.1.size 44 V)) (.ls (RBk w.1.size 44 V)),ct (W0 w) (.rq (efs L V x i) (204*i+1)) (.rq (efs L V x i) (204*i+1)),0=0,0=0,0=0,ii (i:Int)=ii (i:Int)]):=by kernel_rfl
theorem cfI (hN:cM) (l0 l1:Nat) (L V:List R2) (x:Rat) (hl:L.length<=1000000) (hv:V.length<=20) (ha:okL L=true):uB 23 [pM l0 100 L,pM l1 105 V,pR x 4] (fun _=>[pR (efs L V x V.length) (204*V.length+1)]):=by
 intro w vs hG hp;refine uq hG hN (ex:=(exR w.heap.size l0 l1 L V)) (exR_ok hN hG (le_refl _) hl (by omega) ha) (fn:=Tryz.f23) Tryz.func23 (c:=codeOf Tryz.f23) (by kernel_rfl) (args:=[pM l0 100 L,pM l1 105 V,pR x 4]) (by kernel_rfl) hp (fun hR _ hA=>?_);refine Gz (rea l0 l1 L V x) (hR _ rfl) hA (fun a w1 hA=>uk ?_);refine uC (fun i=>reI w.heap.size l0 l1 100 105 44 L V x i) (fun i=>i<=V.length) (fun i=>V.length-i) (L:=kEffect23_n) (ks:=kEffect23_nt) (id:=0) (c:=kj kEffect23_n) (by kernel_rfl) 0 (zero_le _) hA (fun i a2 w2 hi hA=>?_);rcases eq_false_or_eq_true (decide ((i:Int)<(V.length:Int))) with q16|q16
 ·skip
  have p16:=of_decide_eq_true q16;refine Gz (reb0 l0 l1 L V x i) (hR _ rfl) hA (fun aT wT hT=>?_);exact jY (by kernel_rfl) ⟨i+1,by omega,hT,by omega⟩
 ·skip
  have p16:=of_decide_eq_false q16;refine Gz (reb1 l0 l1 L V x i) (hR _ rfl) hA (fun aT wT hT=>?_);refine ki _ (by kernel_rfl) ?_;obtain rfl:i=V.length:=by omega
  refine Gy (ree l0 l1 L V x V.length) (hR _ rfl) hT
end Pe
end Go.Proofs.YtolcmngcebnjdaaGreatDoor
