/- Part 33. -/
import Derived.Test.YtcgiaclelnmhbabGreatDoorE32
set_option linter.all false
noncomputable section

namespace Go.Proofs.YtcgiaclelnmhbabGreatDoor
open Go Go.RowKit Go.Proofs Lim
namespace Pe
theorem chg {P : Program} (h : P.funcs.toList.all (fun fn => !(fn.name == "runtime.NumGoroutine")) = true) : ∀ (f : Nat) (fn : Func), P.funcs[f]? = some fn → (fn.name == "runtime.NumGoroutine") = false := by
 intro f fn hf;have hm:fn∈P.funcs.toList:=by
  rw[Array.mem_toList_iff];exact Array.mem_of_getElem? hf
 have:=List.all_eq_true.1 h fn hm;simpa using this
theorem no_name : ∀ (f : Nat) (fn : Func), Tryz.prog.funcs[f]? = some fn → (fn.name == "runtime.NumGoroutine") = false := chg (by kernel_rfl)
def isYes (o:Option (Out Dx)):Bool:=match o with
 |some ⟨.val (.one (.lit (.bool true))),_,_,[]⟩=>true
 |_=>false
theorem ciZ {o:Option (Out Dx)}(h:isYes o=true):∃ ws n1,o=some ⟨.val (.one (.lit (.bool true))),ws,n1,[]⟩:=by
 unfold isYes at h;split at h
 ·exact⟨_,_,rfl⟩
 ·cases h
theorem cgk:isYes (callF (Sx false 0) TX 300 40 (fun b=>find b ([]:Ws Dx)) 0 4 (jU []))=true:=by kernel_rfl
theorem cdV {w:World}(hG:Gr w):Calls Tryz.prog 4 #[] w (Val w (.bool true)):=by
 obtain⟨ws,n1,h⟩:=ciZ cgk;refine(cgA (C:=Cx false 0 w) (cx_ok (cQ _)) no_name (tx_ok hG) (ps:=[]) (xs:=[]) (ws:=[]) (n0:=0) rfl h trivial (vs:=[]) rfl).mono ?_;rintro en w' ⟨v,e,e',rfl,hl,hv⟩;refine⟨?_,hl.good.below⟩;rw[show v=.bool true from hv]
end Pe
namespace Pe.F
noncomputable def kCrackChecks3_:List Kp:=[.code (codeOf Tryz.f3)]
noncomputable def kown6_:List Kp:=[.code (codeOf Tryz.f6)]
noncomputable def kown6_n:List Kp:=next kown6_
noncomputable def kown6_nl:List Kp:=[.code (jq kown6_n)]
noncomputable def kown6_nt:List Kp:=kown6_n.tail
noncomputable def kCrackChecks3_n:List Kp:=next kCrackChecks3_
noncomputable def kCrackChecks3_nt:List Kp:=kCrackChecks3_n.tail
noncomputable def kCrackChecks3_nl:List Kp:=[.code (jq kCrackChecks3_n)]
theorem cgB {n:Nat}{f g:Nat->Bool}(h:∀ i,i<n->f i=g i):anyP n f=anyP n g:=by
 unfold anyP;rw[Gs,List.any_eq_true,List.any_eq_true];constructor
 ·rintro⟨x,hx,h1⟩;exact⟨x,hx,by rw[← h x (List.mem_range.1 hx)];exact h1⟩
 ·rintro⟨x,hx,h1⟩;exact⟨x,hx,by rw[h x (List.mem_range.1 hx)];exact h1⟩
theorem zN_at {N:List Nat}{i:Nat}:((zN N).getD i default).toNat=N.getD i default:=by
 rcases jj i N.length with h|h
 ·rw[uD,uh,jl h,uD,jl h];rfl
 ·rw[uD,uC (by simpa using h),uD,uC h];rfl
theorem ch_sum {J:List Jb}{T:List Tm}{N:List Nat}(hT:jY T=true):zq T (chJ J N) (cal T)=Cc T J (zN N) T.length:=by
 refine tot_eq hT (fun p t=>?_);rw[We,CC];refine cgB (fun i hi=>?_);unfold suJ sbB;rw[cei hi,zN_at]
def pvR (J:List Jb) (T:List Tm) (B:List Int):Bool×Int:=if kq J&&jY T then (pvB J T B,0) else (false,2)
theorem df_in {B:List Int}{n:Int}(h:kW B n=true):∀ i,i<B.length->0<=B.getD i default/\B.getD i default<n:=by
 intro i hi;unfold kW at h;rw[Bool.not_eq_true'] at h;have:=caV h hi;unfold CJ at this;simp only[cbq,Bool.not_eq_false',yN] at this;constructor<;>omega
theorem to_nn {B:List Int}(h:∀ i,i<B.length->0<=B.getD i default):∃ N:List Nat,B=zN N:=by
 refine⟨B.map Int.toNat,?_⟩;apply yz;intro i;rw[uh,uh];rcases jj i B.length with hi|hi
 ·have:=h i hi;rw[uD,jl hi] at this;rw[jl hi];exact cw some (Ev this).symm
 ·rw[uC hi];rfl
theorem pv_ok (hN:cU) (l0 l1:Nat×Nat) (l2:Nat×Bool) (l3:Nat×Nat) (J:List Jb) (T:List Tm) (B:List Int) (hl:J.length<=1000000) (ht:T.length<=1000000) (hs:Le6 T) (hk:Sk8 T) (hb:B.length<=100000):uG 7 [pJs l0 J,pTs l1 l2 T,pNs l3 B] (fun _=>[.one (.lit (.bool (pvR J T B).1)),pI (pvR J T B).2]):=by
 cases hg:(kq J&&jY T&&kW B J.length) with
 |false =>
  have h:=pn_ok hN l0 l1 l2 l3 J T B hl ht hs (by omega) hg;have e:pvR J T B=(false,if kq J&&jY T then 0 else 2):=by
   unfold pvR;cases hv:(kq J&&jY T) with
   |false=>rfl
   |true =>
    rw[hv] at hg;have hd:kW B J.length=false:=hg;unfold pvB;rw[hd];rfl
  rw[e];exact h
 |true =>
  simp only[GA] at hg;obtain⟨⟨h1,h2⟩,h3⟩:=hg;have hin:=df_in h3;obtain⟨N,rfl⟩:=to_nn (fun i hi=>(hin i hi).1);rw[CC] at hb;have hi:∀ i,i<N.length->N.getD i default<J.length:=fun i hi=>by
   have:=hin i (by rw[CC];exact hi);rw[← zN_at (N:=N)];omega
  have h:=py_ok hN l0 l1 l2 l3 J T N hl ht hs hk hb h1 h2 h3 hi;have e:pvR J T (zN N)=(decide ((N.length:Int)>zq T (chJ J N) (cal T)),0):=by
   unfold pvR pvB;rw[h1,h2,h3,ch_sum h2,CC];rfl
  rw[e];have e2:pNs l3 (zN N)=pNn l3 N:=by
   show (Pat.one (.cls (.ls (lst l3.1 l3.2 1 (zN N) fz))):Pat Dx)=_;rw[lst_nn]
  rw[e2];exact h
abbrev owI (l0:Nat×Nat) (l1 r0:Nat×Bool) (T:List Tm) (c i:Nat):St Dx:=⟨2,[(0,.val (.one (.sym 0 0))),(3,.val (.one (.fn 1))),(4,.val (.one (.lit (ii (i:Int)))))],[(0,.cls (.ls (lst l0.1 l0.2 2 T (fTm l1)))),(1,.gl 30 2 c (fun j=>fTm r0 (T.getD j default)))],[]⟩
theorem owa {w:World}(l0:Nat×Nat) (l1:Nat×Bool) (T:List Tm):run w ⟨[],[],[]⟩ 6 29 kown6_ (stA [pTs l0 l1 T]) (owI l0 l1 (w.heap.size,false) T 0 0)=some (.normal,[sD w (.ls (lst l0.1 l0.2 2 T (fTm l1))),0=0,∀ (j:Nat),j<0->cL (W0 w) (fTm (w.1.size,false) (T.getD j default)) [],ii (↑0:Int)=Value.int IntKind.i64 0]):=by kernel_rfl
theorem owb {w:World}(l0:Nat×Nat) (l1:Nat×Bool) (T:List Tm) (c i:Nat):run w ⟨[(6,9,true)],[(6,1018),(6,27)],[]⟩ 6 29 kown6_nl (owI l0 l1 (w.heap.size,false) T c i) (owI l0 l1 (w.heap.size,false) T (c+1) (i+1))=some (.normal,[decide ((i:Int)<(T.length:Int))=true,i<T.length,i<T.length,i<T.length,i<T.length,(T.getD i default).2.length<=1000000,c+1<=1000000,ko ((i:Int)+1),sD w (.ls (lst l0.1 l0.2 2 T (fTm l1))),c+1=c+1,sN w c (fun j=>fTm (w.1.size,false) (T.getD j default)) [Grp.lit (Value.int IntKind.u8 (Int.ofNat (T.getD i default).1.1)),Grp.cls (Dx.ls { lo:=w.1.size,ty:=3,z:=1,n:=(T.getD i default).2.length,g:=fun(j:Nat)=>fz ((T.getD i default).2.getD j default) })],ii (↑(i+1):Int)=Value.int IntKind.i64 ((i:Int)+1)]):=by kernel_rfl
theorem owc {w:World}(l0:Nat×Nat) (l1:Nat×Bool) (T:List Tm) (c i:Nat):run w ⟨[(6,9,false)],[],[]⟩ 6 29 kown6_nl (owI l0 l1 (w.heap.size,false) T c i) (owI l0 l1 (w.heap.size,false) T c i)=some (.exit 0,[decide ((i:Int)<(T.length:Int))=false,sD w (.ls (lst l0.1 l0.2 2 T (fTm l1))),c=c,sG w c (fun j=>fTm (w.1.size,false) (T.getD j default)),eA (ii (i:Int))]):=by kernel_rfl
theorem owd {w:World}(l0:Nat×Nat) (l1:Nat×Bool) (T:List Tm) (i:Nat):runR w ⟨[],[],[]⟩ 6 29 Tryz.f6 kown6_nt (owI l0 l1 (w.heap.size,false) T T.length i) [pTs (w.heap.size,30) (w.heap.size,false) T]=some (.ret,[cE (W0 w) (.ls (lst w.1.size 30 2 T (fTm (w.1.size,false)))) (.ls { lo:=w.1.size,ty:=30,z:=2,n:=T.length,g:=fun(j:Nat)=>fTm (w.1.size,false) (T.getD j default) }),Cs (W0 w) (.ls (lst w.1.size 30 2 T (fTm (w.1.size,false))))]):=by kernel_rfl
theorem ow_ok (hN:cU) (l0:Nat×Nat) (l1:Nat×Bool) (T:List Tm) (hl:T.length<=100000) (hs:Le6 T):uG 6 [pTs l0 l1 T] (fun lo=>[pTs (lo,30) (lo,false) T]):=by
 intro w vs hG hp;refine kM hG hN (ex:=[]) jF (fn:=Tryz.f6) Tryz.func6 (c:=codeOf Tryz.f6) (by kernel_rfl) (args:=[pTs l0 l1 T]) (by kernel_rfl) hp (fun hR _ hA=>?_);refine cZ (owa l0 l1 T) (hR _ rfl) hA (fun a1 w1 hA=>jw ?_);refine kb (fun i=>owI l0 l1 (w.heap.size,false) T i i) (fun i=>i<=T.length) (fun i=>T.length-i) (L:=kown6_n) (ks:=kown6_nt) (id:=0) (c:=jq kown6_n) (by kernel_rfl) 0 (cQ _) hA (fun i a2 w2 hi hA=>?_);rcases cu (decide ((i:Int)<(T.length:Int))) with q9|q9
 ·have p9:=cH q9;have hlt:i<T.length:=by omega
  have hs1:=hs i hlt;exact cZ (owb l0 l1 T i i) (hR _ rfl) hA (fun a3 w3 hA=>jc (by kernel_rfl) ⟨i+1,hlt,hA,by omega⟩) (by (repeat' (first|exact trivial|apply And.intro))<;>first|exact cE.refl _ _|exact fun _ _=>cL.refl _ _|exact ce rfl|exact cg _ _|exact ci _ _|(with_reducible assumption)|omega|with_reducible rfl|(simp only[cc];omega)|(intro j hj;exact absurd hj (cj _))|exact ce rfl|rfl)
 ·have p9:=cO q9;obtain rfl:i=T.length:=by omega
  refine cZ (owc l0 l1 T T.length T.length) (hR _ rfl) hA (fun a3 w3 hA=>jp _ (by kernel_rfl) ?_);exact cS (owd l0 l1 T T.length) (hR _ rfl) hA (by (repeat' (first|exact trivial|apply And.intro))<;>first|exact cE.refl _ _|exact fun _ _=>cL.refl _ _|exact ce rfl|exact cg _ _|exact ci _ _|(with_reducible assumption)|omega|with_reducible rfl|(simp only[cc];omega)|(intro j hj;exact absurd hj (cj _))|(refine cbR (cb _) ?_;intro j hj d hd;simp [lst,yB] at hd;subst hd;refine cbR (cb _) ?_;intro j2 hj2 d2 hd2;simp [lst,yB] at hd2)|rfl)
theorem ceo {lo:Nat}{w0:World}(hG:Gr w0):jL (Cx false lo w0) (.call 4) [] (vr (.bool true)):=by
 refine⟨jB Tryz.func4 (by kernel_rfl) rfl,fun w vs hb hvs=>?_⟩;obtain rfl:vs=[]:=hvs;exact(cdV (hG.below hb hG.size)).mono fun _ _ h=>⟨_,h.1,h.2,Yl⟩
abbrev exK:List (Nat×Con):=[(4,uc [] (vr (.bool true)))]
theorem exK_ok {lo:Nat}{w0:World}(hG:Gr w0):yf false lo w0 exK:=cV (jO (ceo hG)) jF
theorem WB {w:World}(hG:Gr w) (hN:cU) {ex:List (Nat×Con)}(hE:yf false w.heap.size w ex):∀ o:Opt,o.ex=ex->yD (W0 w) (TY o):=fun o ho=>run_ok (cb _) hG hN (by rw[ho];exact hE)
abbrev pGv (l3 l4:Nat×Nat) (V:List Vs) (B:List Int):Pat Dx:=.agg [.cls (.ls (lst l3.1 l3.2 2 V fVs)),.cls (.ls (lst l4.1 l4.2 1 B fz))]
abbrev exA (l0 l1:Nat×Nat) (l2:Nat×Bool) (lo:Nat) (J:List Jb) (T:List Tm) (V:List Vs) (B:List Int) (n e:Int) (p:Bool):List (Nat×Con):=(6,uc [pTs l1 l2 T] (cbt [pTs (lo,30) (lo,false) T]))::(5,uc [pJs l0 J,pTs (lo,30) (lo,false) T,pPl (lo,69) V] (cbt [pI n,pI e]))::(7,uc [pJs l0 J,pTs (lo,30) (lo,false) T,pNs (lo,3) B] (cbt [.one (.lit (.bool p)),pI e]))::(8,uc [pJs l0 J] (vr (.bool (kq J))))::(9,uc [pTs l1 l2 T] (vr (.bool (jY T))))::exK
abbrev exB (l0 l1:Nat×Nat) (l2:Nat×Bool) (l3 l4:Nat×Nat) (lo:Nat) (J:List Jb) (T:List Tm) (V:List Vs) (B:List Int) (n e:Int) (p:Bool):List (Nat×Con):=(10,uc [pJs l0 J,pTs l1 l2 T,pPl l3 V] (vr (.int .i64 n)))::(11,uc [pJs l0 J,pTs l1 l2 T,pNs l4 B] (vr (.bool p)))::exA l0 l1 l2 lo J T V B n e p
abbrev lwI (l0 l1:Nat×Nat) (l2:Nat×Bool) (l3 l4:Nat×Nat) (J:List Jb) (T:List Tm) (V:List Vs) (B:List Int) (i:Nat):St Dx:=⟨5,[(0,.val (.one (.sym 0 0))),(1,.val (.one (.sym 1 0))),(5,.val (.one (.ptr 4 0))),(7,.val (.one (.lit (ii (i:Int)))))],[(0,.cls (.ls (lst l0.1 l0.2 2 J fJ))),(1,.cls (.ls (lst l1.1 l1.2 2 T (fTm l2)))),(2,.cls (.ls (lst l3.1 l3.2 2 V fVs))),(3,.cls (.ls (lst l4.1 l4.2 1 B fz))),(4,.blk 27 [.sym 2 0,.sym 3 0] none)],[]⟩
theorem lwa {w:World}(l0 l1:Nat×Nat) (l2:Nat×Bool) (l3 l4:Nat×Nat) (J:List Jb) (T:List Tm) (V:List Vs) (B:List Int) (i:Nat):runR w ⟨[(3,70,false)],[],exA l0 l1 l2 w.heap.size J T V B 0 2 false⟩ 3 121 Tryz.f3 kCrackChecks3_nt (lwI l0 l1 l2 l3 l4 J T V B i) (rB true)=some (.ret,[[Pat.one (Grp.cls (Dx.ls (lst l1.1 l1.2 2 T (fTm l2))))]=[pTs l1 l2 T],0+V.length<=1000000,[Pat.one (Grp.cls (Dx.ls (lst l0.1 l0.2 2 J fJ))),Pat.one (Grp.cls (Dx.ls (lst w.1.size 30 2 T (fTm (w.1.size,false))))),Pat.one (Grp.cls (Dx.ls { lo:=w.1.size,ty:=69,z:=2,n:=0+V.length,g:=CQ 0 (fun(x:Nat)=>[]) fun(j:Nat)=>fVs (V.getD j default) }))]=[pJs l0 J,pTs (w.1.size,30) (w.1.size,false) T,pPl (w.1.size,69) V],[Pat.one (Grp.cls (Dx.ls (lst l1.1 l1.2 2 T (fTm l2))))]=[pTs l1 l2 T],0+B.length<=1000000,[Pat.one (Grp.cls (Dx.ls (lst l0.1 l0.2 2 J fJ))),Pat.one (Grp.cls (Dx.ls (lst w.1.size 30 2 T (fTm (w.1.size,false))))),Pat.one (Grp.cls (Dx.ls { lo:=w.1.size,ty:=3,z:=1,n:=0+B.length,g:=CQ 0 (fun(x:Nat)=>[]) fun(j:Nat)=>fz (B.getD j default) }))]=[pJs l0 J,pTs (w.1.size,30) (w.1.size,false) T,pNs (w.1.size,3) B],kq J=false,[Pat.one (Grp.cls (Dx.ls (lst l0.1 l0.2 2 J fJ)))]=[pJs l0 J],([]:List (Pat Dx))=[],eA (Value.bool true)]):=by kernel_rfl
theorem lwb {w:World}(l0 l1:Nat×Nat) (l2:Nat×Bool) (l3 l4:Nat×Nat) (J:List Jb) (T:List Tm) (V:List Vs) (B:List Int) (i:Nat):runR w ⟨[(3,70,true),(3,74,false)],[],exA l0 l1 l2 w.heap.size J T V B 0 2 false⟩ 3 121 Tryz.f3 kCrackChecks3_nt (lwI l0 l1 l2 l3 l4 J T V B i) (rB true)=some (.ret,[[Pat.one (Grp.cls (Dx.ls (lst l1.1 l1.2 2 T (fTm l2))))]=[pTs l1 l2 T],0+V.length<=1000000,[Pat.one (Grp.cls (Dx.ls (lst l0.1 l0.2 2 J fJ))),Pat.one (Grp.cls (Dx.ls (lst w.1.size 30 2 T (fTm (w.1.size,false))))),Pat.one (Grp.cls (Dx.ls { lo:=w.1.size,ty:=69,z:=2,n:=0+V.length,g:=CQ 0 (fun(x:Nat)=>[]) fun(j:Nat)=>fVs (V.getD j default) }))]=[pJs l0 J,pTs (w.1.size,30) (w.1.size,false) T,pPl (w.1.size,69) V],[Pat.one (Grp.cls (Dx.ls (lst l1.1 l1.2 2 T (fTm l2))))]=[pTs l1 l2 T],0+B.length<=1000000,[Pat.one (Grp.cls (Dx.ls (lst l0.1 l0.2 2 J fJ))),Pat.one (Grp.cls (Dx.ls (lst w.1.size 30 2 T (fTm (w.1.size,false))))),Pat.one (Grp.cls (Dx.ls { lo:=w.1.size,ty:=3,z:=1,n:=0+B.length,g:=CQ 0 (fun(x:Nat)=>[]) fun(j:Nat)=>fz (B.getD j default) }))]=[pJs l0 J,pTs (w.1.size,30) (w.1.size,false) T,pNs (w.1.size,3) B],kq J=true,[Pat.one (Grp.cls (Dx.ls (lst l0.1 l0.2 2 J fJ)))]=[pJs l0 J],jY T=false,[Pat.one (Grp.cls (Dx.ls (lst l1.1 l1.2 2 T (fTm l2))))]=[pTs l1 l2 T],([]:List (Pat Dx))=[],eA (Value.bool true)]):=by kernel_rfl
theorem lwc {w:World}(l0 l1:Nat×Nat) (l2:Nat×Bool) (l3 l4:Nat×Nat) (J:List Jb) (T:List Tm) (V:List Vs) (B:List Int) (n:Int) (i:Nat):runR w ⟨[(3,70,true),(3,74,true),(3,107,true)],[],exB l0 l1 l2 l3 l4 w.heap.size J T V B n 0 true⟩ 3 121 Tryz.f3 kCrackChecks3_nt (lwI l0 l1 l2 l3 l4 J T V B i) (rB true)=some (.ret,[[Pat.one (Grp.cls (Dx.ls (lst l1.1 l1.2 2 T (fTm l2))))]=[pTs l1 l2 T],0+V.length<=1000000,[Pat.one (Grp.cls (Dx.ls (lst l0.1 l0.2 2 J fJ))),Pat.one (Grp.cls (Dx.ls (lst w.1.size 30 2 T (fTm (w.1.size,false))))),Pat.one (Grp.cls (Dx.ls { lo:=w.1.size,ty:=69,z:=2,n:=0+V.length,g:=CQ 0 (fun(x:Nat)=>[]) fun(j:Nat)=>fVs (V.getD j default) }))]=[pJs l0 J,pTs (w.1.size,30) (w.1.size,false) T,pPl (w.1.size,69) V],[Pat.one (Grp.cls (Dx.ls (lst l1.1 l1.2 2 T (fTm l2))))]=[pTs l1 l2 T],0+B.length<=1000000,[Pat.one (Grp.cls (Dx.ls (lst l0.1 l0.2 2 J fJ))),Pat.one (Grp.cls (Dx.ls (lst w.1.size 30 2 T (fTm (w.1.size,false))))),Pat.one (Grp.cls (Dx.ls { lo:=w.1.size,ty:=3,z:=1,n:=0+B.length,g:=CQ 0 (fun(x:Nat)=>[]) fun(j:Nat)=>fz (B.getD j default) }))]=[pJs l0 J,pTs (w.1.size,30) (w.1.size,false) T,pNs (w.1.size,3) B],kq J=true,[Pat.one (Grp.cls (Dx.ls (lst l0.1 l0.2 2 J fJ)))]=[pJs l0 J],jY T=true,[Pat.one (Grp.cls (Dx.ls (lst l1.1 l1.2 2 T (fTm l2))))]=[pTs l1 l2 T],[Pat.one (Grp.cls (Dx.ls (lst l0.1 l0.2 2 J fJ))),Pat.one (Grp.cls (Dx.ls (lst l1.1 l1.2 2 T (fTm l2)))),Pat.one (Grp.cls (Dx.ls (lst l3.1 l3.2 2 V fVs)))]=[pJs l0 J,pTs l1 l2 T,pPl l3 V],decide (n=n)=true,[Pat.one (Grp.cls (Dx.ls (lst l0.1 l0.2 2 J fJ))),Pat.one (Grp.cls (Dx.ls (lst l1.1 l1.2 2 T (fTm l2)))),Pat.one (Grp.cls (Dx.ls (lst l4.1 l4.2 1 B fz)))]=[pJs l0 J,pTs l1 l2 T,pNs l4 B],([]:List (Pat Dx))=[],eA (Value.bool true)]):=by kernel_rfl
theorem lwd {w:World}(l0 l1:Nat×Nat) (l2:Nat×Bool) (l3 l4:Nat×Nat) (J:List Jb) (T:List Tm) (V:List Vs) (B:List Int) (n:Int) (i:Nat):runR w ⟨[(3,70,true),(3,74,true),(3,107,true)],[],exB l0 l1 l2 l3 l4 w.heap.size J T V B n 0 false⟩ 3 121 Tryz.f3 kCrackChecks3_nt (lwI l0 l1 l2 l3 l4 J T V B i) (rB true)=some (.ret,[[Pat.one (Grp.cls (Dx.ls (lst l1.1 l1.2 2 T (fTm l2))))]=[pTs l1 l2 T],0+V.length<=1000000,[Pat.one (Grp.cls (Dx.ls (lst l0.1 l0.2 2 J fJ))),Pat.one (Grp.cls (Dx.ls (lst w.1.size 30 2 T (fTm (w.1.size,false))))),Pat.one (Grp.cls (Dx.ls { lo:=w.1.size,ty:=69,z:=2,n:=0+V.length,g:=CQ 0 (fun(x:Nat)=>[]) fun(j:Nat)=>fVs (V.getD j default) }))]=[pJs l0 J,pTs (w.1.size,30) (w.1.size,false) T,pPl (w.1.size,69) V],[Pat.one (Grp.cls (Dx.ls (lst l1.1 l1.2 2 T (fTm l2))))]=[pTs l1 l2 T],0+B.length<=1000000,[Pat.one (Grp.cls (Dx.ls (lst l0.1 l0.2 2 J fJ))),Pat.one (Grp.cls (Dx.ls (lst w.1.size 30 2 T (fTm (w.1.size,false))))),Pat.one (Grp.cls (Dx.ls { lo:=w.1.size,ty:=3,z:=1,n:=0+B.length,g:=CQ 0 (fun(x:Nat)=>[]) fun(j:Nat)=>fz (B.getD j default) }))]=[pJs l0 J,pTs (w.1.size,30) (w.1.size,false) T,pNs (w.1.size,3) B],kq J=true,[Pat.one (Grp.cls (Dx.ls (lst l0.1 l0.2 2 J fJ)))]=[pJs l0 J],jY T=true,[Pat.one (Grp.cls (Dx.ls (lst l1.1 l1.2 2 T (fTm l2))))]=[pTs l1 l2 T],[Pat.one (Grp.cls (Dx.ls (lst l0.1 l0.2 2 J fJ))),Pat.one (Grp.cls (Dx.ls (lst l1.1 l1.2 2 T (fTm l2)))),Pat.one (Grp.cls (Dx.ls (lst l3.1 l3.2 2 V fVs)))]=[pJs l0 J,pTs l1 l2 T,pPl l3 V],decide (n=n)=true,[Pat.one (Grp.cls (Dx.ls (lst l0.1 l0.2 2 J fJ))),Pat.one (Grp.cls (Dx.ls (lst l1.1 l1.2 2 T (fTm l2)))),Pat.one (Grp.cls (Dx.ls (lst l4.1 l4.2 1 B fz)))]=[pJs l0 J,pTs l1 l2 T,pNs l4 B],([]:List (Pat Dx))=[],eA (Value.bool true)]):=by kernel_rfl
theorem ct_v {l0:Nat×Nat}{r:Nat}{J:List Jb}{T:List Tm}{V:List Vs}:([Pat.one (Grp.cls (Dx.ls (lst l0.1 l0.2 2 J fJ))),Pat.one (Grp.cls (Dx.ls (lst r 30 2 T (fTm (r,false))))),Pat.one (Grp.cls (Dx.ls { lo:=r,ty:=69,z:=2,n:=0+V.length,g:=CQ 0 (fun(_:Nat)=>[]) fun(j:Nat)=>fVs (V.getD j default) }))]:List (Pat Dx))=[pJs l0 J,pTs (r,30) (r,false) T,pPl (r,69) V]:=by
 rw[jb];rfl
theorem ct_b {l0:Nat×Nat}{r:Nat}{J:List Jb}{T:List Tm}{B:List Int}:([Pat.one (Grp.cls (Dx.ls (lst l0.1 l0.2 2 J fJ))),Pat.one (Grp.cls (Dx.ls (lst r 30 2 T (fTm (r,false))))),Pat.one (Grp.cls (Dx.ls { lo:=r,ty:=3,z:=1,n:=0+B.length,g:=CQ 0 (fun(_:Nat)=>[]) fun(j:Nat)=>fz (B.getD j default) }))]:List (Pat Dx))=[pJs l0 J,pTs (r,30) (r,false) T,pNs (r,3) B]:=by
 rw[jb];rfl
theorem sub_own {lo hi:Nat}{w0:World}{T:List Tm}(h:lo<=hi):cE (Cx false lo w0) (.ls (lst lo 30 2 T (fTm (lo,false)))) (.ls (lst hi 30 2 T (fTm (hi,false)))):=by
 intro w l hl;have hl:DIs w (.ls (lst hi 30 2 T (fTm (hi,false)))) l:=hl;show DIs w (.ls (lst lo 30 2 T (fTm (lo,false)))) l;cases hl with
 |nil h0=>exact .nil h0
 |ls k o c arr pre vs rest q2 q3 q4 q5 q6 q7 q8 q9 =>
  refine .ls k o c arr pre vs rest q2 q3 q4 q5 q6 (cB h q7) q8 (fun j hj=>?_);have hg:GsI w (fTm (hi,false) (T.getD j default)) ((vs.drop (j*2)).take 2):=q9 j hj;show GsI w (fTm (lo,false) (T.getD j default)) ((vs.drop (j*2)).take 2);revert hg;generalize (vs.drop (j*2)).take 2=us;intro hg;cases hg with
  |lit hg =>
   refine .lit ?_;cases hg with
   |cls h1 h2 =>
    refine .cls ?_ h2;cases h1 with
    |nil h0=>exact .nil h0
    |ls k' o' c' arr' pre' vs' rest' r2 r3 r4 r5 r6 r7 r8 r9=>exact .ls k' o' c' arr' pre' vs' rest' r2 r3 r4 r5 r6 (cB h r7) r8 r9
theorem ceU {l0 l1:Nat×Nat}{l2:Nat×Bool}{w:World}{J:List Jb}{T:List Tm}{V:List Vs}{B:List Int}{n e:Int}{p:Bool}(hN:cU) (hG:Gr w) (hl:J.length<=1000000) (ht:T.length<=100000) (hs:Le6 T) (hk:Sk8 T) (hv:V.length<=1000000) (hb:B.length<=100000) (h1:ckR J T V=(n,e)) (h2:pvR J T B=(p,e)):yf false w.heap.size w (exA l0 l1 l2 w.heap.size J T V B n e p):=by
 have hlo:=cb w.heap.size;have ht6:T.length<=1000000:=by omega
 have hck:=ck_ok hN l0 (w.heap.size,30) (w.heap.size,false) (w.heap.size,69) J T V hl ht6 hs hk hv;have hpv:=pv_ok hN l0 (w.heap.size,30) (w.heap.size,false) (w.heap.size,3) J T B hl ht6 hs hk hb;rw[h1] at hck;rw[h2] at hpv;refine cV (jO ?_) (cV (jO ?_) (cV (jO ?_) (cV (jO ?_) (cV (jO ?_) (exK_ok hG)))))
 ·exact(ow_ok hN l1 l2 T ht hs).ent hG hlo (jB Tryz.func6 (by kernel_rfl) rfl) (fun hi h=>⟨_,rfl,sub_own h,trivial⟩)
 ·exact hck.ent hG hlo (jB Tryz.func5 (by kernel_rfl) rfl) (fun _ _=>⟨_,rfl,rfl,rfl,trivial⟩)
 ·exact hpv.ent hG hlo (jB Tryz.func7 (by kernel_rfl) rfl) (fun _ _=>⟨_,rfl,rfl,rfl,trivial⟩)
 ·exact(rj_ok hN l0 J hl).val hG hlo (jB Tryz.func8 (by kernel_rfl) rfl)
 ·exact(rt_ok hN l1 l2 T ht6 hs).val hG hlo (jB Tryz.func9 (by kernel_rfl) rfl)
theorem exB_ok {l0 l1:Nat×Nat}{l2:Nat×Bool}{l3 l4:Nat×Nat}{w:World}{J:List Jb}{T:List Tm}{V:List Vs}{B:List Int}{n:Int}{p:Bool}(hN:cU) (hG:Gr w) (hl:J.length<=1000000) (ht:T.length<=100000) (hs:Le6 T) (hk:Sk8 T) (hv:V.length<=1000000) (hb:B.length<=100000) (hJ:kq J=true) (hT:jY T=true) (h1:ckZ J T V=n) (h2:pvB J T B=p):yf false w.heap.size w (exB l0 l1 l2 l3 l4 w.heap.size J T V B n 0 p):=by
 have hlo:=cb w.heap.size;have hc:=rc_ok hN l0 l1 l2 l3 J T V hl hv hJ hT hk;have hp:=rp_ok hN l0 l1 l2 l4 J T B hl (by omega) hJ hT hk;rw[h1] at hc;rw[h2] at hp;refine cV (jO (hc.val hG hlo (jB Tryz.func10 (by kernel_rfl) rfl))) (cV (jO (hp.val hG hlo (jB Tryz.func11 (by kernel_rfl) rfl))) (ceU hN hG hl ht hs hk hv hb ?_ ?_))
 ·unfold ckR;rw[hJ,hT,h1];rfl
 ·unfold pvR;rw[hJ,hT,h2];rfl
theorem lwn {w:World}(l0 l1:Nat×Nat) (l2:Nat×Bool) (l3 l4:Nat×Nat) (J:List Jb) (T:List Tm) (V:List Vs) (B:List Int) (i:Nat):run w ⟨[(3,36,true),(3,45,false)],[],exK⟩ 3 121 kCrackChecks3_nl (lwI l0 l1 l2 l3 l4 J T V B i) (lwI l0 l1 l2 l3 l4 J T V B (i+1))=some (.normal,[decide ((i:Int)<(T.length:Int))=true,i<T.length,i<T.length,decide ((↑(T.getD i default).2.length:Int)>45)=false,ko ((i:Int)+1),sD w (.ls (lst l0.1 l0.2 2 J fJ)),sD w (.ls (lst l1.1 l1.2 2 T (fTm l2))),sD w (.ls (lst l3.1 l3.2 2 V fVs)),sD w (.ls (lst l4.1 l4.2 1 B fz)),0=0,ii (↑(i+1):Int)=Value.int IntKind.i64 ((i:Int)+1)]):=by kernel_rfl
theorem lwm {w:World}(l0 l1:Nat×Nat) (l2:Nat×Bool) (l3 l4:Nat×Nat) (J:List Jb) (T:List Tm) (V:List Vs) (B:List Int) (i:Nat):runR w ⟨[(3,36,true),(3,45,true)],[],exK⟩ 3 121 Tryz.f3 kCrackChecks3_nl (lwI l0 l1 l2 l3 l4 J T V B i) (rB true)=some (.ret,[decide ((i:Int)<(T.length:Int))=true,i<T.length,i<T.length,decide ((↑(T.getD i default).2.length:Int)>45)=true,([]:List (Pat Dx))=[],eA (Value.bool true)]):=by kernel_rfl
theorem lwx {w:World}(l0 l1:Nat×Nat) (l2:Nat×Bool) (l3 l4:Nat×Nat) (J:List Jb) (T:List Tm) (V:List Vs) (B:List Int) (i:Nat):run w ⟨[(3,36,false)],[],exK⟩ 3 121 kCrackChecks3_nl (lwI l0 l1 l2 l3 l4 J T V B i) (lwI l0 l1 l2 l3 l4 J T V B i)=some (.exit 0,[decide ((i:Int)<(T.length:Int))=false,sD w (.ls (lst l0.1 l0.2 2 J fJ)),sD w (.ls (lst l1.1 l1.2 2 T (fTm l2))),sD w (.ls (lst l3.1 l3.2 2 V fVs)),sD w (.ls (lst l4.1 l4.2 1 B fz)),0=0,eA (ii (i:Int))]):=by kernel_rfl
theorem lw_rest {w w1:World}{a:Act}(hN:cU) (hG:Gr w) (l0 l1:Nat×Nat) (l2:Nat×Bool) (l3 l4:Nat×Nat) (J:List Jb) (T:List Tm) (V:List Vs) (B:List Int) (hk:Sk8 T) (hl:J.length<=35) (ht:T.length<=10) (hv:V.length<=40) (hb:B.length<=40) (hR:∀ o:Opt,o.ex=exK->yD (W0 w) (TY o)) (hA:At (W0 w) 121 (lwI l0 l1 l2 l3 l4 J T V B 0) a w1):after Fence.wide 0 Tryz.prog kCrackChecks3_n (Ret (W0 w) Tryz.f3 (Res (W0 w) (rB true))) .normal a w1:=by
 refine kb (fun i=>lwI l0 l1 l2 l3 l4 J T V B i) (fun i=>i<=T.length/\∀ k,k<i->(T.getD k default).2.length<=45) (fun i=>T.length-i) (L:=kCrackChecks3_n) (ks:=kCrackChecks3_nt) (id:=0) (c:=jq kCrackChecks3_n) (by kernel_rfl) 0 ⟨cQ _,by omega⟩ hA (fun i a2 w2 hi hA=>?_);rcases cu (decide ((i:Int)<(T.length:Int))) with q36|q36
 ·have p36:=cH q36;have hlt:i<T.length:=by omega
  rcases cu (decide (((T.getD i default).2.length:Int)>45)) with q45|q45
  ·exact cS (lwm l0 l1 l2 l3 l4 J T V B i) (hR _ rfl) hA (by (repeat' (first|exact trivial|apply And.intro))<;>first|exact cE.refl _ _|exact fun _ _=>cL.refl _ _|exact ce rfl|exact cg _ _|exact ci _ _|(with_reducible assumption)|omega|with_reducible rfl|(simp only[cc];omega)|(intro j hj;exact absurd hj (cj _))|exact q45|rfl)
  ·have p45:=cO q45;exact cZ (lwn l0 l1 l2 l3 l4 J T V B i) (hR _ rfl) hA (fun a3 w3 hA=>jc (by kernel_rfl) ⟨i+1,⟨hlt,fun k hk2=>by rcases Nat.lt_succ_iff_lt_or_eq.1 hk2 with h|rfl;exact hi.2 k h;omega⟩,hA,by omega⟩) (by (repeat' (first|exact trivial|apply And.intro))<;>first|exact cE.refl _ _|exact fun _ _=>cL.refl _ _|exact ce rfl|exact cg _ _|exact ci _ _|(with_reducible assumption)|omega|with_reducible rfl|(simp only[cc];omega)|(intro j hj;exact absurd hj (cj _))|exact q45|rfl)
 ·have p36:=cO q36;refine cZ (lwx l0 l1 l2 l3 l4 J T V B i) (hR _ rfl) hA (fun a3 w3 hA=>jp _ (by kernel_rfl) ?_);have hs:Le6 T:=fun k hk2=>cB (hi.2 k (by omega)) (by decide);rcases cu (kq J) with q70|q70
  rotate_left
  ·exact cS (lwa l0 l1 l2 l3 l4 J T V B i) (WB hG hN (ceU hN hG (by omega) (by omega) hs hk (by omega) (by omega) (by unfold ckR;rw[q70];rfl) (by unfold pvR;rw[q70];rfl)) _ rfl) hA (by (repeat' (first|exact trivial|apply And.intro))<;>first|exact cE.refl _ _|exact fun _ _=>cL.refl _ _|exact ce rfl|exact cg _ _|exact ci _ _|(with_reducible assumption)|omega|with_reducible rfl|(simp only[cc];omega)|(intro j hj;exact absurd hj (cj _))|exact ct_v|exact ct_b|exact q70|rfl)
  rcases cu (jY T) with q74|q74
  rotate_left
  ·exact cS (lwb l0 l1 l2 l3 l4 J T V B i) (WB hG hN (ceU hN hG (by omega) (by omega) hs hk (by omega) (by omega) (by unfold ckR;rw[q70,q74];rfl) (by unfold pvR;rw[q70,q74];rfl)) _ rfl) hA (by (repeat' (first|exact trivial|apply And.intro))<;>first|exact cE.refl _ _|exact fun _ _=>cL.refl _ _|exact ce rfl|exact cg _ _|exact ci _ _|(with_reducible assumption)|omega|with_reducible rfl|(simp only[cc];omega)|(intro j hj;exact absurd hj (cj _))|exact ct_v|exact ct_b|exact q70|exact q74|rfl)
  rcases cu (pvB J T B) with q1|q1
  ·exact cS (lwc l0 l1 l2 l3 l4 J T V B (ckZ J T V) i) (WB hG hN (exB_ok hN hG (by omega) (by omega) hs hk (by omega) (by omega) q70 q74 rfl q1) _ rfl) hA (by (repeat' (first|exact trivial|apply And.intro))<;>first|exact cE.refl _ _|exact fun _ _=>cL.refl _ _|exact ce rfl|exact cg _ _|exact ci _ _|(with_reducible assumption)|omega|with_reducible rfl|(simp only[cc];omega)|(intro j hj;exact absurd hj (cj _))|exact ct_v|exact ct_b|exact q70|exact q74|exact uk rfl|rfl)
  ·exact cS (lwd l0 l1 l2 l3 l4 J T V B (ckZ J T V) i) (WB hG hN (exB_ok hN hG (by omega) (by omega) hs hk (by omega) (by omega) q70 q74 rfl q1) _ rfl) hA (by (repeat' (first|exact trivial|apply And.intro))<;>first|exact cE.refl _ _|exact fun _ _=>cL.refl _ _|exact ce rfl|exact cg _ _|exact ci _ _|(with_reducible assumption)|omega|with_reducible rfl|(simp only[cc];omega)|(intro j hj;exact absurd hj (cj _))|exact ct_v|exact ct_b|exact q70|exact q74|exact uk rfl|rfl)
noncomputable abbrev lwtTnal (w:World) (l0 l1:Nat×Nat) (l2:Nat×Bool) (l3 l4:Nat×Nat) (J:List Jb) (T:List Tm) (V:List Vs) (B:List Int) (o:List (Nat×Nat×Bool)):=run w ⟨o,[],exK⟩ 3 121 kCrackChecks3_ (stA [pJs l0 J,pTs l1 l2 T,pGv l3 l4 V B]) (lwI l0 l1 l2 l3 l4 J T V B 0)
noncomputable abbrev lwtR (w:World) (l0 l1:Nat×Nat) (l2:Nat×Bool) (l3 l4:Nat×Nat) (J:List Jb) (T:List Tm) (V:List Vs) (B:List Int) (o:List (Nat×Nat×Bool)):=runR w ⟨o,[],exK⟩ 3 121 Tryz.f3 kCrackChecks3_ (stA [pJs l0 J,pTs l1 l2 T,pGv l3 l4 V B]) (rB true)
theorem lwt0 {w:World}(l0 l1:Nat×Nat) (l2:Nat×Bool) (l3 l4:Nat×Nat) (J:List Jb) (T:List Tm) (V:List Vs) (B:List Int):lwtR w l0 l1 l2 l3 l4 J T V B [(3,14,true)]=some (.ret,[decide ((J.length:Int)>35)=true,([]:List (Pat Dx))=[],eA (Value.bool true)]):=by kernel_rfl
theorem lwt1 {w:World}(l0 l1:Nat×Nat) (l2:Nat×Bool) (l3 l4:Nat×Nat) (J:List Jb) (T:List Tm) (V:List Vs) (B:List Int):lwtR w l0 l1 l2 l3 l4 J T V B [(3,14,false),(3,18,true)]=some (.ret,[decide ((J.length:Int)>35)=false,decide ((T.length:Int)>10)=true,([]:List (Pat Dx))=[],eA (Value.bool true)]):=by kernel_rfl
theorem lwt2 {w:World}(l0 l1:Nat×Nat) (l2:Nat×Bool) (l3 l4:Nat×Nat) (J:List Jb) (T:List Tm) (V:List Vs) (B:List Int):lwtR w l0 l1 l2 l3 l4 J T V B [(3,14,false),(3,18,false),(3,24,true)]=some (.ret,[decide ((J.length:Int)>35)=false,decide ((T.length:Int)>10)=false,decide ((V.length:Int)>40)=true,([]:List (Pat Dx))=[],eA (Value.bool true)]):=by kernel_rfl
theorem lwt3 {w:World}(l0 l1:Nat×Nat) (l2:Nat×Bool) (l3 l4:Nat×Nat) (J:List Jb) (T:List Tm) (V:List Vs) (B:List Int):lwtR w l0 l1 l2 l3 l4 J T V B [(3,14,false),(3,18,false),(3,24,false),(3,30,true)]=some (.ret,[decide ((J.length:Int)>35)=false,decide ((T.length:Int)>10)=false,decide ((V.length:Int)>40)=false,decide ((B.length:Int)>40)=true,([]:List (Pat Dx))=[],eA (Value.bool true)]):=by kernel_rfl
theorem lwt4 {w:World}(l0 l1:Nat×Nat) (l2:Nat×Bool) (l3 l4:Nat×Nat) (J:List Jb) (T:List Tm) (V:List Vs) (B:List Int):lwtTnal w l0 l1 l2 l3 l4 J T V B [(3,14,false),(3,18,false),(3,24,false),(3,30,false)]=some (.normal,[decide ((J.length:Int)>35)=false,decide ((T.length:Int)>10)=false,decide ((V.length:Int)>40)=false,decide ((B.length:Int)>40)=false,sD w (.ls (lst l0.1 l0.2 2 J fJ)),sD w (.ls (lst l1.1 l1.2 2 T (fTm l2))),sD w (.ls (lst l3.1 l3.2 2 V fVs)),sD w (.ls (lst l4.1 l4.2 1 B fz)),0=0,ii (↑0:Int)=Value.int IntKind.i64 0]):=by kernel_rfl
theorem lw_ok (hN:cU) (l0 l1:Nat×Nat) (l2:Nat×Bool) (l3 l4:Nat×Nat) (J:List Jb) (T:List Tm) (V:List Vs) (B:List Int) (hk:Sk8 T):uG 3 [pJs l0 J,pTs l1 l2 T,pGv l3 l4 V B] (fun _=>rB true):=by
 intro w vs hG hp;refine kM hG hN (ex:=exK) (exK_ok hG) (fn:=Tryz.f3) Tryz.func3 (c:=codeOf Tryz.f3) (by kernel_rfl) (args:=[pJs l0 J,pTs l1 l2 T,pGv l3 l4 V B]) (by kernel_rfl) hp (fun hR _ hA=>?_);rcases cu (decide ((J.length:Int)>35)) with q14|q14
 ·skip
  have p14:=cH q14;refine cS (lwt0 l0 l1 l2 l3 l4 J T V B) (hR _ rfl) hA
 ·skip
  have p14:=cO q14;rcases cu (decide ((T.length:Int)>10)) with q18|q18
  ·skip
   have p18:=cH q18;refine cS (lwt1 l0 l1 l2 l3 l4 J T V B) (hR _ rfl) hA
  ·skip
   have p18:=cO q18;rcases cu (decide ((V.length:Int)>40)) with q24|q24
   ·skip
    have p24:=cH q24;refine cS (lwt2 l0 l1 l2 l3 l4 J T V B) (hR _ rfl) hA
   ·skip
    have p24:=cO q24;rcases cu (decide ((B.length:Int)>40)) with q30|q30
    ·skip
     have p30:=cH q30;refine cS (lwt3 l0 l1 l2 l3 l4 J T V B) (hR _ rfl) hA
    ·skip
     have p30:=cO q30;refine cZ (lwt4 l0 l1 l2 l3 l4 J T V B) (hR _ rfl) hA (fun aT wT hT=>?_);refine jw ?_;exact lw_rest hN hG l0 l1 l2 l3 l4 J T V B hk (by omega) (by omega) (by omega) (by omega) hR hT
end Pe.F
end Go.Proofs.YtcgiaclelnmhbabGreatDoor
