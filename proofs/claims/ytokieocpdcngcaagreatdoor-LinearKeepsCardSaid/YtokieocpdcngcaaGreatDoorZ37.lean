/- Part 37. -/
import Derived.Test.YtokieocpdcngcaaGreatDoorZ32
import Derived.Test.YtokieocpdcngcaaGreatDoorZ33
import Derived.Test.YtokieocpdcngcaaGreatDoorZ34
import Derived.Test.YtokieocpdcngcaaGreatDoorZ35
import Derived.Test.YtokieocpdcngcaaGreatDoorZ36
set_option linter.all false
open Nat (le_refl zero_le)
noncomputable section

namespace Go.Proofs.YtokieocpdcngcaaGreatDoor
open Go Go.RowKit Go.Proofs Lim
namespace Pe.Known
theorem part6:jX (Sx false 0) TZ CFx YFx 109 M0 5 false 294 body5 st5=some (.ret,st6,[]):=by kernel_rfl
end Pe.Known
namespace Pe.Known
theorem from4:jX (Sx false 0) TZ CFx YFx 109 M0 5 false 295 body4 st4=some (.ret,st6,[]):=yy (n:=293) 1 body4 part5 (by kernel_rfl) part6
theorem from3:jX (Sx false 0) TZ CFx YFx 109 M0 5 false 296 body3 st3=some (.ret,st6,[]):=yy (n:=294) 1 body3 part4 (by kernel_rfl) from4
theorem from2:jX (Sx false 0) TZ CFx YFx 109 M0 5 false 297 body2 st2=some (.ret,st6,[]):=yy (n:=295) 1 body2 part3 (by kernel_rfl) from3
theorem from1:jX (Sx false 0) TZ CFx YFx 109 M0 5 false 298 body1 st1=some (.ret,st6,[]):=yy (n:=296) 1 body1 part2 (by kernel_rfl) from2
theorem from0:jX (Sx false 0) TZ CFx YFx 109 M0 5 false 300 body0 st0=some (.ret,st6,[]):=yy (n:=297) 2 body0 part1 (by kernel_rfl) from1
end Pe.Known
namespace Pe
theorem cgz {P : Program} (h : P.funcs.toList.all (fun fn => !(fn.name == "runtime.NumGoroutine")) = true) : ∀ (f : Nat) (fn : Func), P.funcs[f]? = some fn → (fn.name == "runtime.NumGoroutine") = false := by
 intro f fn hf;have hm:fn∈P.funcs.toList:=by
  rw[Array.mem_toList_iff];exact Array.mem_of_getElem? hf
 have:=List.all_eq_true.1 h fn hm;simpa using this
theorem no_name : ∀ (f : Nat) (fn : Func), Tryz.prog.funcs[f]? = some fn → (fn.name == "runtime.NumGoroutine") = false := cgz (by kernel_rfl)
namespace Known
theorem ends:caj (Sx false 0) TZ CFx YFx 300 M0 0 5 []=some ⟨YE [.one (.lit (.bool true))],gcW 0 st6.nb [.one (.lit (.bool true))] (uf st6.ms st6.m),st6.nb,[]⟩ :=
 runF_of Tryz.func5 (c:=body0) rfl (by kernel_rfl) from0 (by kernel_rfl) (by kernel_rfl) (by kernel_rfl)
theorem ccZ {S:Stat Dx}{TT:FuncId->Tab Dx}{g n:Nat}:callF S TT g (n+1)=caj S TT (yL S TT g n).1 (yL S TT g n).2 g:=rfl
theorem views:(fun b=>find b ([]:Ws Dx))=M0:=rfl
theorem call:callF (Sx false 0) TZ 300 (39+1) (fun b=>find b ([]:Ws Dx)) 0 5 (jA [])=some ⟨YE [.one (.lit (.bool true))],gcW 0 st6.nb [.one (.lit (.bool true))] (uf st6.ms st6.m),st6.nb,[]⟩:=by
 rw[ccZ,views,show jA []=[] from rfl];exact ends
end Known
theorem ccw {w:World}(hG:Gr w):Calls Tryz.prog 5 #[] w (Val w (.bool true)):=by
 refine(cgy (C:=Cx false 0 w) (cx_ok (zero_le _)) no_name (tz_ok no_name hG) (ps:=[]) (xs:=[]) (ws:=[]) (n0:=0) rfl Known.call trivial (vs:=[]) rfl).mono ?_;rintro en w' ⟨v,e,e',rfl,hl,hv⟩;refine⟨?_,hl.good.below⟩;rw[show v=.bool true from hv]
theorem cgg {lo:Nat}{w0:World}(hG:Gr w0):cZ (Cx true lo w0) (.call 5) [] (vr (.bool true)):=by
 refine⟨enters_of Tryz.func5 (by kernel_rfl) rfl,fun w vs hb hvs=>?_⟩;obtain rfl:vs=[]:=hvs;exact(ccw (hG.below hb hG.size)).mono fun _ _ h=>⟨_,h.1,h.2,EW⟩
abbrev exN:List (Nat×Con):=[(5,kZ [] (vr (.bool true)))]
theorem exN_ok {lo:Nat}{w0:World}(hG:Gr w0):yI true lo w0 exN:=je (jo (cgg hG)) cR
end Pe
namespace Pe
noncomputable def kLinearKeeps3_:List Kp:=[.code (codeOf Tryz.f3)]
abbrev argK (r0 r1:Nat) (l:List Ln) (p:List Rt):List (Pat Dx):=[pN r0 l,pX r1 p]
noncomputable abbrev exG (r0 n:Nat) (l:List Ln) (b:Bool):List (Nat×Con):=(4,kZ (Kd r0 n l) (vr (.bool b)))::exN
theorem exG_ok {lo r0 n:Nat}{w0:World}{l:List Ln}{b:Bool}(hN:cP) (hG:Gr w0) (hlo:lo<=w0.heap.size) (hl:l.length<=9223372036854775807) (hn:n<=9223372036854775807) (hb:lng n l=b):yI true lo w0 (exG r0 n l b):=by
 subst hb;exact je (jo ((long_ok hN r0 n l hl hn).val hG hlo (enters_of Tryz.func4 (by kernel_rfl) rfl))) (exN_ok hG)
abbrev XP (p:List Rt):List Rat:=p.map rv
abbrev RP (l:List Ln):List V2:=l.map rwv
noncomputable abbrev exH (lo r0 r1:Nat) (l:List Ln) (p:List Rt) (res:cK Dx) (v:Bool):List (Nat×Con):=(7,kZ [pN r0 l] (Jq [pQw lo (RP l)]))::(8,kZ [pX r1 p] (Jq [pQl lo (XP p)]))::(10,kZ [pN r0 l] (Jq [pRw lo (RP l)]))::(9,kZ [pX r1 p] (Jq [pRl lo (XP p)]))::(6,kZ [pQw lo (RP l),pQl lo (XP p)] res)::(11,kZ [pPr lo lo (XP p) (RP l)] (vr (.bool v)))::exG r0 p.length l false
noncomputable abbrev exHt (lo r0 r1:Nat) (l:List Ln) (p:List Rt) (k:Bool):List (Nat×Con):=(12,kZ [pRw lo (RP l),pRl lo (XP p)] (vr (.bool k)))::exH lo r0 r1 l p (.tup [.one (.lit (.bool k)),pI 0]) true
theorem lkz1 {w:World}(r0 r1:Nat) (l:List Ln) (p:List Rt):runR w ⟨[],[],exG r0 p.length l true⟩ 3 52 Tryz.f3 kLinearKeeps3_ (stA (argK r0 r1 l p)) (rB true)=some (.ret,[[Pat.one (Grp.lit (goInt (p.length:Int))),Pat.one (Grp.cls (Dx.ls (lst 0 r0 3 l fN))),Pat.one (Grp.lit (Value.int IntKind.i64 20)),Pat.one (Grp.lit (Value.int IntKind.i64 70))]=Kd r0 p.length l,([]:List (Pat Dx))=[],eA (Value.bool true)]):=by kernel_rfl
theorem lkz2 {w:World}(r0 r1:Nat) (l:List Ln) (p:List Rt):runR w ⟨[(3,30,true)],[],exH w.heap.size r0 r1 l p (.tup [.one (.lit (.bool false)),pI 2]) false⟩ 3 52 Tryz.f3 kLinearKeeps3_ (stA (argK r0 r1 l p)) (rB true)=some (.ret,[[Pat.one (Grp.lit (goInt (p.length:Int))),Pat.one (Grp.cls (Dx.ls (lst 0 r0 3 l fN))),Pat.one (Grp.lit (Value.int IntKind.i64 20)),Pat.one (Grp.lit (Value.int IntKind.i64 70))]=Kd r0 p.length l,[Pat.one (Grp.cls (Dx.ls (lst 0 r0 3 l fN)))]=[pN r0 l],[Pat.one (Grp.cls (Dx.ls (lst 0 r1 2 p fX)))]=[pX r1 p],[Pat.one (Grp.cls (Dx.ls (lst w.1.size 70 5 (RP l) (wkq w.1.size)))),Pat.one (Grp.cls (Dx.ls (lst w.1.size 50 4 (XP p) hkq)))]=[pQw w.1.size (RP l),pQl w.1.size (XP p)],[Pat.one (Grp.cls (Dx.ls (lst 0 r1 2 p fX)))]=[pX r1 p],[Pat.one (Grp.cls (Dx.ls (lst 0 r0 3 l fN)))]=[pN r0 l],[Pat.agg [Grp.cls (Dx.ls (lst w.1.size 74 3 (XP p) hkr)),Grp.cls (Dx.ls (lst w.1.size 77 4 (RP l) (wkr w.1.size)))]]=[pPr w.1.size w.1.size (XP p) (RP l)],decide (2=2)=true,([]:List (Pat Dx))=[],eA (Value.bool true)]):=by kernel_rfl
theorem lkz3t {w:World}(r0 r1:Nat) (l:List Ln) (p:List Rt):runR w ⟨[(3,39,true),(3,47,true)],[],exHt w.heap.size r0 r1 l p true⟩ 3 52 Tryz.f3 kLinearKeeps3_ (stA (argK r0 r1 l p)) (rB true)=some (.ret,[[Pat.one (Grp.lit (goInt (p.length:Int))),Pat.one (Grp.cls (Dx.ls (lst 0 r0 3 l fN))),Pat.one (Grp.lit (Value.int IntKind.i64 20)),Pat.one (Grp.lit (Value.int IntKind.i64 70))]=Kd r0 p.length l,[Pat.one (Grp.cls (Dx.ls (lst 0 r0 3 l fN)))]=[pN r0 l],[Pat.one (Grp.cls (Dx.ls (lst 0 r1 2 p fX)))]=[pX r1 p],[Pat.one (Grp.cls (Dx.ls (lst w.1.size 70 5 (RP l) (wkq w.1.size)))),Pat.one (Grp.cls (Dx.ls (lst w.1.size 50 4 (XP p) hkq)))]=[pQw w.1.size (RP l),pQl w.1.size (XP p)],[Pat.one (Grp.cls (Dx.ls (lst 0 r1 2 p fX)))]=[pX r1 p],[Pat.one (Grp.cls (Dx.ls (lst 0 r0 3 l fN)))]=[pN r0 l],[Pat.agg [Grp.cls (Dx.ls (lst w.1.size 74 3 (XP p) hkr)),Grp.cls (Dx.ls (lst w.1.size 77 4 (RP l) (wkr w.1.size)))]]=[pPr w.1.size w.1.size (XP p) (RP l)],decide (0=0)=true,[Pat.one (Grp.cls (Dx.ls (lst w.1.size 77 4 (RP l) (wkr w.1.size)))),Pat.one (Grp.cls (Dx.ls (lst w.1.size 74 3 (XP p) hkr)))]=[pRw w.1.size (RP l),pRl w.1.size (XP p)],([]:List (Pat Dx))=[],eA (Value.bool true)]):=by kernel_rfl
theorem lkz3f {w:World}(r0 r1:Nat) (l:List Ln) (p:List Rt):runR w ⟨[(3,39,true),(3,47,true)],[],exHt w.heap.size r0 r1 l p false⟩ 3 52 Tryz.f3 kLinearKeeps3_ (stA (argK r0 r1 l p)) (rB true)=some (.ret,[[Pat.one (Grp.lit (goInt (p.length:Int))),Pat.one (Grp.cls (Dx.ls (lst 0 r0 3 l fN))),Pat.one (Grp.lit (Value.int IntKind.i64 20)),Pat.one (Grp.lit (Value.int IntKind.i64 70))]=Kd r0 p.length l,[Pat.one (Grp.cls (Dx.ls (lst 0 r0 3 l fN)))]=[pN r0 l],[Pat.one (Grp.cls (Dx.ls (lst 0 r1 2 p fX)))]=[pX r1 p],[Pat.one (Grp.cls (Dx.ls (lst w.1.size 70 5 (RP l) (wkq w.1.size)))),Pat.one (Grp.cls (Dx.ls (lst w.1.size 50 4 (XP p) hkq)))]=[pQw w.1.size (RP l),pQl w.1.size (XP p)],[Pat.one (Grp.cls (Dx.ls (lst 0 r1 2 p fX)))]=[pX r1 p],[Pat.one (Grp.cls (Dx.ls (lst 0 r0 3 l fN)))]=[pN r0 l],[Pat.agg [Grp.cls (Dx.ls (lst w.1.size 74 3 (XP p) hkr)),Grp.cls (Dx.ls (lst w.1.size 77 4 (RP l) (wkr w.1.size)))]]=[pPr w.1.size w.1.size (XP p) (RP l)],decide (0=0)=true,[Pat.one (Grp.cls (Dx.ls (lst w.1.size 77 4 (RP l) (wkr w.1.size)))),Pat.one (Grp.cls (Dx.ls (lst w.1.size 74 3 (XP p) hkr)))]=[pRw w.1.size (RP l),pRl w.1.size (XP p)],([]:List (Pat Dx))=[],eA (Value.bool true)]):=by kernel_rfl
theorem ceD {lo:Nat}{w0:World}{f:Nat}{args:List (Pat Dx)}{b:Bool}{e:Int}(h:kX f args (fun _=>[.one (.lit (.bool b)),pI e])) (hG:Gr w0) (hlo:lo<=w0.heap.size) (hE:Enters Tryz.prog f):cZ (Cx true lo w0) (.call f) args (.tup [.one (.lit (.bool b)),pI e]) :=
 h.ent hG hlo hE (fun _ _=>⟨_,rfl,rfl,rfl,trivial⟩)
theorem exH_ok {w:World}{r0 r1:Nat}{l:List Ln}{p:List Rt}{res:cK Dx}{v:Bool}(hN:cP) (hG:Gr w) (hx:l.all okN=true) (hp:okZ p=true) (hb:lng p.length l=false) (hv:vld p.length (RP l)=v) (hK:cZ (Cx true w.heap.size w) (.call 6) [pQw w.heap.size (RP l),pQl w.heap.size (XP p)] res):yI true w.heap.size w (exH w.heap.size r0 r1 l p res v):=by
 obtain⟨g1,g2,g3⟩:=lng_is hb;have hL:=le_refl w.heap.size;have hm:∀ i,i<l.length->(l.getD i default).2.1.length<=1000:=fun i hi=>by have:=g3 i hi;omega
 have h1:(RP l).length=l.length:=List.length_map ..;have h2:(XP p).length=p.length:=List.length_map ..;subst hv;refine je (jo (kqw_ent hN hG hL hx (by omega) hm)) (je (jo (cem hN hG hL hp (by omega))) (je (jo (krw_ent hN hG hL hx (by omega) hm)) (je (jo (ceL hN hG hL hp (by omega))) (je (jo hK) (je (jo ?_) (exG_ok hN hG hL (by omega) (by omega) hb))))));have:=(cgI hN w.heap.size w.heap.size (XP p) (RP l) (by omega) (by omega)).val hG hL (enters_of Tryz.func11 (by kernel_rfl) rfl)
 rwa [h2] at this
theorem keepsLaw_ok (hN:cP) (r0 r1:Nat) (l:List Ln) (p:List Rt) (hx:l.all okN=true) (hp:okZ p=true) (hl:l.length<=9223372036854775807) (hn:p.length<=9223372036854775807):kX 3 (argK r0 r1 l p) (fun _=>rB true):=by
 intro w vs hG hv;refine yk hG hN (ex:=exN) (exN_ok hG) (fn:=Tryz.f3) Tryz.func3 (c:=codeOf Tryz.f3) (by kernel_rfl) (args:=argK r0 r1 l p) (by kernel_rfl) hv (fun hR a0 hA=>?_);have hL:=le_refl w.heap.size;have h1:(RP l).length=l.length:=List.length_map ..;have h2:(XP p).length=p.length:=List.length_map ..;cases hb:lng p.length l with
 |true=>exact jE (lkz1 r0 r1 l p) (jS hG hN (exG_ok hN hG hL hl hn hb) _ rfl) hA
 |false =>
  obtain⟨g1,g2,g3⟩:=lng_is hb;have hlx:(XP p).length<=1000:=by omega
  have hlr:(RP l).length<=1000:=by omega
  cases hvd:vld p.length (RP l) with
  |false =>
   have hK:=ceD (chp hN w.heap.size w.heap.size (RP l) (XP p) hlr hlx (by rw[h2];exact hvd)) hG hL (enters_of Tryz.func6 (by kernel_rfl) rfl);exact jE (lkz2 r0 r1 l p) (jS hG hN (exH_ok hN hG hx hp hb hvd hK) _ rfl) hA
  |true =>
   have hv2:vld (XP p).length (RP l)=true:=by rw[h2];exact hvd
   obtain⟨k1,k2,k3⟩:=cdk hv2;have hK:=ceD (chI hN w.heap.size w.heap.size (RP l) (XP p) hv2) hG hL (enters_of Tryz.func6 (by kernel_rfl) rfl);have hE:=je (jo ((cfO hN w.heap.size w.heap.size (RP l) (XP p) hlr k3 hlx).val hG hL (enters_of Tryz.func12 (by kernel_rfl) rfl))) (exH_ok (r0:=r0) (r1:=r1) hN hG hx hp hb hvd hK);have key:∀ k,yI true w.heap.size w (exHt w.heap.size r0 r1 l p k)->after Fence.wide 0 Tryz.prog [.code (codeOf Tryz.f3)] (Ret (W0 w) Tryz.f3 (Res (W0 w) (rB true))) .normal a0 w:=by
    intro k hE;cases k with
    |true=>exact jE (lkz3t r0 r1 l p) (jS hG hN hE _ rfl) hA
    |false=>exact jE (lkz3f r0 r1 l p) (jS hG hN hE _ rfl) hA
   exact key _ hE
end Pe
end Go.Proofs.YtokieocpdcngcaaGreatDoor
