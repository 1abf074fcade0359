/- Part 33. -/
import Derived.Test.YtolcmngcebnjdaaGreatDoorW29
set_option linter.all false
open Bool (and_eq_true eq_false_or_eq_true or_eq_true)
open List (take_length)
open Nat (zero_le)
noncomputable section

namespace Go.Proofs.YtolcmngcebnjdaaGreatDoor
open Go Go.RowKit Go.Proofs Lim
namespace Pe
noncomputable def kwide8_:List Kp:=[.code (codeOf Tryz.f8)]
noncomputable def kwide8_n:List Kp:=next kwide8_
noncomputable def kwide8_nt:List Kp:=kwide8_n.tail
noncomputable def kwide8_ntn:List Kp:=next kwide8_nt
noncomputable def kwide8_ntnl:List Kp:=[.code (kj kwide8_ntn)]
noncomputable def kwide8_nl:List Kp:=[.code (kj kwide8_n)]
noncomputable def kwide8_ntnt:List Kp:=kwide8_ntn.tail
abbrev ut (l:Tx):Bool:=decide (40<l.length)
abbrev uY (x:P3):Bool:=ut x.1||ut x.2.1||ut x.2.2
abbrev GX (n m:Nat) (t:Tx):Bool:=decide (n>8)&&decide (n<=60)||decide (n>70)||decide (m>5)&&decide (m<=20)||decide (m>30)||ut t
def jw (ps as':List P3) (t:Tx):Bool:=GX ps.length as'.length t||ps.any uY||as'.any uY
abbrev wdS (lo1 lo2:Nat) (ps as':List P3) (t:Tx):St Dx:=⟨2,Ev 0 (kF [.agg [.sym 0 0,.sym 1 0,.lit (str t)]]),cdc lo1 lo2 ps as',[]⟩
abbrev wdI (s:Nat) (lo1 lo2:Nat) (ps as':List P3) (t:Tx) (i:Nat):St Dx:=⟨3,[(1,.val (.one (.ptr 2 0))),(s,.val (.one (.lit (ii (i:Int)))))],cdc lo1 lo2 ps as'++[(2,.blk 25 [.sym 0 0,.sym 1 0,.lit (str t)] none)],[]⟩
abbrev wdE (lo1 lo2:Nat) (ps as':List P3) (t:Tx):St Dx:=⟨3,[(1,.val (.one (.ptr 2 0)))],cdc lo1 lo2 ps as'++[(2,.blk 25 [.sym 0 0,.sym 1 0,.lit (str t)] none)],[]⟩
theorem kA {ps as':List P3}{t:Tx}(h:GX ps.length as'.length t=true):Value.bool (jw ps as' t)=Value.bool true:=by simp only[jw,h,Bool.true_or]
theorem uM {ps as':List P3}{t:Tx}{i:Nat}(hi:i<ps.length) (h:uY (ps.getD i default)=true):Value.bool (jw ps as' t)=Value.bool true:=by
 have:ps.any uY=true:=List.any_eq_true.2 ⟨_,Zf hi,h⟩;simp only[jw,this,Bool.or_true,Bool.true_or]
theorem uP {ps as':List P3}{t:Tx}{i:Nat}(hi:i<as'.length) (h:uY (as'.getD i default)=true):Value.bool (jw ps as' t)=Value.bool true:=by
 have:as'.any uY=true:=List.any_eq_true.2 ⟨_,Zf hi,h⟩;simp only[jw,this,Bool.or_true]
theorem Cr {x:P3}(h:ut x.1=true):uY x=true:=by simp only[uY,h,Bool.true_or]
theorem Cm {x:P3}(h:ut x.2.1=true):uY x=true:=by simp only[uY,h,Bool.or_true,Bool.true_or]
theorem Co {x:P3}(h:ut x.2.2=true):uY x=true:=by simp only[uY,h,Bool.or_true]
theorem cdw {xs:List P3}{i:Nat}(hi:i<xs.length) (h:(xs.take i).any uY=false) (h2:uY (xs.getD i default)=false):(xs.take (i+1)).any uY=false:=by
 rw[List.take_add_one,List.any_append,h];rw[List.getD_eq_getElem?_getD] at h2;rw[List.getElem?_eq_getElem hi] at h2 ⊢;simpa using h2
theorem EI (ps as':List P3) (t:Tx) (h1:ps.length<=8\/60<ps.length) (h2:ps.length<=70) (h3:as'.length<=5\/20<as'.length) (h4:as'.length<=30) (h5:ut t=false):GX ps.length as'.length t=false:=by
 simp only[GX,h5,Bool.or_false,Bool.or_eq_false_iff,Bool.and_eq_false_iff,decide_eq_false_iff_not];omega
theorem ka (ps as':List P3) (t:Tx) (h:(8<ps.length/\ps.length<=60)\/70<ps.length\/(5<as'.length/\as'.length<=20)\/30<as'.length):GX ps.length as'.length t=true:=by
 simp only[GX,or_eq_true,and_eq_true,decide_eq_true_eq];omega
theorem Zy {ps as':List P3}{t:Tx}(h:GX ps.length as'.length t=false):(ps.length<=8\/60<ps.length)/\ps.length<=70/\(as'.length<=5\/20<as'.length)/\as'.length<=30/\t.length<=40:=by
 simp only[GX,ut,Bool.or_eq_false_iff,Bool.and_eq_false_iff,decide_eq_false_iff_not] at h;omega
theorem uj (ps as':List P3) (t:Tx) (h:ut t=true):GX ps.length as'.length t=true:=by
 simp only[GX,h,Bool.or_true]
theorem wdc {w:World}(lo1 lo2:Nat) (ps as':List P3) (t:Tx):run w ⟨[],[],[]⟩ 8 108 kwide8_nt (wdE lo1 lo2 ps as' t) (wdI 4 lo1 lo2 ps as' t 0)=some (.normal,[ct (W0 w) (.ls (lst 0 lo1 3 ps f3)) (.ls (lst 0 lo1 3 ps f3)),ct (W0 w) (.ls (lst 0 lo2 3 as' f3)) (.ls (lst 0 lo2 3 as' f3)),str t=str t,0=0,ii (↑0:Int)=Value.int IntKind.i64 0]):=by kernel_rfl
theorem wde {w:World}(lo1 lo2:Nat) (ps as':List P3) (t:Tx):runR w ⟨[],[],[]⟩ 8 108 Tryz.f8 kwide8_ntnt (wdE lo1 lo2 ps as' t) (rB (jw ps as' t))=some (.ret,[Value.bool (jw ps as' t)=Value.bool false]):=by kernel_rfl
section
variable {w:World}{lo1 lo2:Nat}{ps as':List P3}{t:Tx}
noncomputable abbrev wddTe2 (w:World) (lo1 lo2:Nat) (ps as':List P3) (t:Tx) (i:Nat) (o:List (Nat×Nat×Bool)):=run w ⟨o,[],[]⟩ 8 108 kwide8_ntnl (wdI 4 lo1 lo2 ps as' t i) (wdE lo1 lo2 ps as' t)
noncomputable abbrev wddTnal (w:World) (lo1 lo2:Nat) (ps as':List P3) (t:Tx) (i:Nat) (o:List (Nat×Nat×Bool)):=run w ⟨o,[],[]⟩ 8 108 kwide8_ntnl (wdI 4 lo1 lo2 ps as' t i) (wdI 4 lo1 lo2 ps as' t (i+1))
noncomputable abbrev wddR (w:World) (lo1 lo2:Nat) (ps as':List P3) (t:Tx) (i:Nat) (o:List (Nat×Nat×Bool)):=runR w ⟨o,[],[]⟩ 8 108 Tryz.f8 kwide8_ntnl (wdI 4 lo1 lo2 ps as' t i) (rB (jw ps as' t))
theorem wdd0 {w:World}(lo1 lo2:Nat) (ps as':List P3) (t:Tx) (i:Nat):wddR w lo1 lo2 ps as' t i [(8,80,true),(8,89,true)]=some (.ret,[decide ((i:Int)<(as'.length:Int))=true,i<as'.length,i<as'.length,decide (40<List.length (as'.getD i default).1)=true,Value.bool (jw ps as' t)=Value.bool true]):=by kernel_rfl
theorem wdd1 {w:World}(lo1 lo2:Nat) (ps as':List P3) (t:Tx) (i:Nat):wddR w lo1 lo2 ps as' t i [(8,80,true),(8,89,false),(8,97,true)]=some (.ret,[decide ((i:Int)<(as'.length:Int))=true,i<as'.length,i<as'.length,decide (40<List.length (as'.getD i default).1)=false,i<as'.length,i<as'.length,decide (40<List.length (as'.getD i default).2.1)=true,Value.bool (jw ps as' t)=Value.bool true]):=by kernel_rfl
theorem wdd2 {w:World}(lo1 lo2:Nat) (ps as':List P3) (t:Tx) (i:Nat):wddR w lo1 lo2 ps as' t i [(8,80,true),(8,89,false),(8,97,false),(8,106,true)]=some (.ret,[decide ((i:Int)<(as'.length:Int))=true,i<as'.length,i<as'.length,decide (40<List.length (as'.getD i default).1)=false,i<as'.length,i<as'.length,decide (40<List.length (as'.getD i default).2.1)=false,i<as'.length,i<as'.length,decide (40<List.length (as'.getD i default).2.2)=true,Value.bool (jw ps as' t)=Value.bool true]):=by kernel_rfl
theorem wdd3 {w:World}(lo1 lo2:Nat) (ps as':List P3) (t:Tx) (i:Nat):wddTnal w lo1 lo2 ps as' t i [(8,80,true),(8,89,false),(8,97,false),(8,106,false)]=some (.normal,[decide ((i:Int)<(as'.length:Int))=true,i<as'.length,i<as'.length,decide (40<List.length (as'.getD i default).1)=false,i<as'.length,i<as'.length,decide (40<List.length (as'.getD i default).2.1)=false,i<as'.length,i<as'.length,decide (40<List.length (as'.getD i default).2.2)=false,yt ((i:Int)+1),ct (W0 w) (.ls (lst 0 lo1 3 ps f3)) (.ls (lst 0 lo1 3 ps f3)),ct (W0 w) (.ls (lst 0 lo2 3 as' f3)) (.ls (lst 0 lo2 3 as' f3)),str t=str t,0=0,ii (↑(i+1):Int)=Value.int IntKind.i64 ((i:Int)+1)]):=by kernel_rfl
theorem wdd4 {w:World}(lo1 lo2:Nat) (ps as':List P3) (t:Tx) (i:Nat):wddTe2 w lo1 lo2 ps as' t i [(8,80,false)]=some (.exit 2,[decide ((i:Int)<(as'.length:Int))=false,ct (W0 w) (.ls (lst 0 lo1 3 ps f3)) (.ls (lst 0 lo1 3 ps f3)),ct (W0 w) (.ls (lst 0 lo2 3 as' f3)) (.ls (lst 0 lo2 3 as' f3)),str t=str t,0=0]):=by kernel_rfl
noncomputable abbrev wdbTe0 (w:World) (lo1 lo2:Nat) (ps as':List P3) (t:Tx) (i:Nat) (o:List (Nat×Nat×Bool)):=run w ⟨o,[],[]⟩ 8 108 kwide8_nl (wdI 3 lo1 lo2 ps as' t i) (wdE lo1 lo2 ps as' t)
noncomputable abbrev wdbTnal (w:World) (lo1 lo2:Nat) (ps as':List P3) (t:Tx) (i:Nat) (o:List (Nat×Nat×Bool)):=run w ⟨o,[],[]⟩ 8 108 kwide8_nl (wdI 3 lo1 lo2 ps as' t i) (wdI 3 lo1 lo2 ps as' t (i+1))
noncomputable abbrev wdbR (w:World) (lo1 lo2:Nat) (ps as':List P3) (t:Tx) (i:Nat) (o:List (Nat×Nat×Bool)):=runR w ⟨o,[],[]⟩ 8 108 Tryz.f8 kwide8_nl (wdI 3 lo1 lo2 ps as' t i) (rB (jw ps as' t))
theorem wdb0 {w:World}(lo1 lo2:Nat) (ps as':List P3) (t:Tx) (i:Nat):wdbR w lo1 lo2 ps as' t i [(8,48,true),(8,57,true)]=some (.ret,[decide ((i:Int)<(ps.length:Int))=true,i<ps.length,i<ps.length,decide (40<List.length (ps.getD i default).1)=true,Value.bool (jw ps as' t)=Value.bool true]):=by kernel_rfl
theorem wdb1 {w:World}(lo1 lo2:Nat) (ps as':List P3) (t:Tx) (i:Nat):wdbR w lo1 lo2 ps as' t i [(8,48,true),(8,57,false),(8,65,true)]=some (.ret,[decide ((i:Int)<(ps.length:Int))=true,i<ps.length,i<ps.length,decide (40<List.length (ps.getD i default).1)=false,i<ps.length,i<ps.length,decide (40<List.length (ps.getD i default).2.1)=true,Value.bool (jw ps as' t)=Value.bool true]):=by kernel_rfl
theorem wdb2 {w:World}(lo1 lo2:Nat) (ps as':List P3) (t:Tx) (i:Nat):wdbR w lo1 lo2 ps as' t i [(8,48,true),(8,57,false),(8,65,false),(8,74,true)]=some (.ret,[decide ((i:Int)<(ps.length:Int))=true,i<ps.length,i<ps.length,decide (40<List.length (ps.getD i default).1)=false,i<ps.length,i<ps.length,decide (40<List.length (ps.getD i default).2.1)=false,i<ps.length,i<ps.length,decide (40<List.length (ps.getD i default).2.2)=true,Value.bool (jw ps as' t)=Value.bool true]):=by kernel_rfl
theorem wdb3 {w:World}(lo1 lo2:Nat) (ps as':List P3) (t:Tx) (i:Nat):wdbTnal w lo1 lo2 ps as' t i [(8,48,true),(8,57,false),(8,65,false),(8,74,false)]=some (.normal,[decide ((i:Int)<(ps.length:Int))=true,i<ps.length,i<ps.length,decide (40<List.length (ps.getD i default).1)=false,i<ps.length,i<ps.length,decide (40<List.length (ps.getD i default).2.1)=false,i<ps.length,i<ps.length,decide (40<List.length (ps.getD i default).2.2)=false,yt ((i:Int)+1),ct (W0 w) (.ls (lst 0 lo1 3 ps f3)) (.ls (lst 0 lo1 3 ps f3)),ct (W0 w) (.ls (lst 0 lo2 3 as' f3)) (.ls (lst 0 lo2 3 as' f3)),str t=str t,0=0,ii (↑(i+1):Int)=Value.int IntKind.i64 ((i:Int)+1)]):=by kernel_rfl
theorem wdb4 {w:World}(lo1 lo2:Nat) (ps as':List P3) (t:Tx) (i:Nat):wdbTe0 w lo1 lo2 ps as' t i [(8,48,false)]=some (.exit 0,[decide ((i:Int)<(ps.length:Int))=false,ct (W0 w) (.ls (lst 0 lo1 3 ps f3)) (.ls (lst 0 lo1 3 ps f3)),ct (W0 w) (.ls (lst 0 lo2 3 as' f3)) (.ls (lst 0 lo2 3 as' f3)),str t=str t,0=0]):=by kernel_rfl
noncomputable abbrev wdaTnal (w:World) (lo1 lo2:Nat) (ps as':List P3) (t:Tx) (o:List (Nat×Nat×Bool)):=run w ⟨o,[],[]⟩ 8 108 kwide8_ (wdS lo1 lo2 ps as' t) (wdI 3 lo1 lo2 ps as' t 0)
noncomputable abbrev wdaR (w:World) (lo1 lo2:Nat) (ps as':List P3) (t:Tx) (o:List (Nat×Nat×Bool)):=runR w ⟨o,[],[]⟩ 8 108 Tryz.f8 kwide8_ (wdS lo1 lo2 ps as' t) (rB (jw ps as' t))
theorem wda0 {w:World}(lo1 lo2:Nat) (ps as':List P3) (t:Tx):wdaR w lo1 lo2 ps as' t [(8,8,true),(8,13,true)]=some (.ret,[decide ((ps.length:Int)>8)=true,decide ((ps.length:Int)<=60)=true,Value.bool (jw ps as' t)=Value.bool true]):=by kernel_rfl
theorem wda1 {w:World}(lo1 lo2:Nat) (ps as':List P3) (t:Tx):wdaR w lo1 lo2 ps as' t [(8,8,true),(8,13,false),(8,19,true)]=some (.ret,[decide ((ps.length:Int)>8)=true,decide ((ps.length:Int)<=60)=false,decide ((ps.length:Int)>70)=true,Value.bool (jw ps as' t)=Value.bool true]):=by kernel_rfl
theorem wda2 {w:World}(lo1 lo2:Nat) (ps as':List P3) (t:Tx):wdaR w lo1 lo2 ps as' t [(8,8,true),(8,13,false),(8,19,false),(8,25,true),(8,30,true)]=some (.ret,[decide ((ps.length:Int)>8)=true,decide ((ps.length:Int)<=60)=false,decide ((ps.length:Int)>70)=false,decide ((as'.length:Int)>5)=true,decide ((as'.length:Int)<=20)=true,Value.bool (jw ps as' t)=Value.bool true]):=by kernel_rfl
theorem wda3 {w:World}(lo1 lo2:Nat) (ps as':List P3) (t:Tx):wdaR w lo1 lo2 ps as' t [(8,8,true),(8,13,false),(8,19,false),(8,25,true),(8,30,false),(8,37,true)]=some (.ret,[decide ((ps.length:Int)>8)=true,decide ((ps.length:Int)<=60)=false,decide ((ps.length:Int)>70)=false,decide ((as'.length:Int)>5)=true,decide ((as'.length:Int)<=20)=false,decide ((as'.length:Int)>30)=true,Value.bool (jw ps as' t)=Value.bool true]):=by kernel_rfl
theorem wda4 {w:World}(lo1 lo2:Nat) (ps as':List P3) (t:Tx):wdaR w lo1 lo2 ps as' t [(8,8,true),(8,13,false),(8,19,false),(8,25,true),(8,30,false),(8,37,false),(8,42,true)]=some (.ret,[decide ((ps.length:Int)>8)=true,decide ((ps.length:Int)<=60)=false,decide ((ps.length:Int)>70)=false,decide ((as'.length:Int)>5)=true,decide ((as'.length:Int)<=20)=false,decide ((as'.length:Int)>30)=false,decide (40<List.length t)=true,Value.bool (jw ps as' t)=Value.bool true]):=by kernel_rfl
theorem wda5 {w:World}(lo1 lo2:Nat) (ps as':List P3) (t:Tx):wdaTnal w lo1 lo2 ps as' t [(8,8,true),(8,13,false),(8,19,false),(8,25,true),(8,30,false),(8,37,false),(8,42,false)]=some (.normal,[decide ((ps.length:Int)>8)=true,decide ((ps.length:Int)<=60)=false,decide ((ps.length:Int)>70)=false,decide ((as'.length:Int)>5)=true,decide ((as'.length:Int)<=20)=false,decide ((as'.length:Int)>30)=false,decide (40<List.length t)=false,ct (W0 w) (.ls (lst 0 lo1 3 ps f3)) (.ls (lst 0 lo1 3 ps f3)),ct (W0 w) (.ls (lst 0 lo2 3 as' f3)) (.ls (lst 0 lo2 3 as' f3)),str t=str t,0=0,ii (↑0:Int)=Value.int IntKind.i64 0]):=by kernel_rfl
theorem wda6 {w:World}(lo1 lo2:Nat) (ps as':List P3) (t:Tx):wdaR w lo1 lo2 ps as' t [(8,8,true),(8,13,false),(8,19,false),(8,25,false),(8,37,true)]=some (.ret,[decide ((ps.length:Int)>8)=true,decide ((ps.length:Int)<=60)=false,decide ((ps.length:Int)>70)=false,decide ((as'.length:Int)>5)=false,decide ((as'.length:Int)>30)=true,Value.bool (jw ps as' t)=Value.bool true]):=by kernel_rfl
theorem wda7 {w:World}(lo1 lo2:Nat) (ps as':List P3) (t:Tx):wdaR w lo1 lo2 ps as' t [(8,8,true),(8,13,false),(8,19,false),(8,25,false),(8,37,false),(8,42,true)]=some (.ret,[decide ((ps.length:Int)>8)=true,decide ((ps.length:Int)<=60)=false,decide ((ps.length:Int)>70)=false,decide ((as'.length:Int)>5)=false,decide ((as'.length:Int)>30)=false,decide (40<List.length t)=true,Value.bool (jw ps as' t)=Value.bool true]):=by kernel_rfl
theorem wda8 {w:World}(lo1 lo2:Nat) (ps as':List P3) (t:Tx):wdaTnal w lo1 lo2 ps as' t [(8,8,true),(8,13,false),(8,19,false),(8,25,false),(8,37,false),(8,42,false)]=some (.normal,[decide ((ps.length:Int)>8)=true,decide ((ps.length:Int)<=60)=false,decide ((ps.length:Int)>70)=false,decide ((as'.length:Int)>5)=false,decide ((as'.length:Int)>30)=false,decide (40<List.length t)=false,ct (W0 w) (.ls (lst 0 lo1 3 ps f3)) (.ls (lst 0 lo1 3 ps f3)),ct (W0 w) (.ls (lst 0 lo2 3 as' f3)) (.ls (lst 0 lo2 3 as' f3)),str t=str t,0=0,ii (↑0:Int)=Value.int IntKind.i64 0]):=by kernel_rfl
theorem wda9 {w:World}(lo1 lo2:Nat) (ps as':List P3) (t:Tx):wdaR w lo1 lo2 ps as' t [(8,8,false),(8,19,true)]=some (.ret,[decide ((ps.length:Int)>8)=false,decide ((ps.length:Int)>70)=true,Value.bool (jw ps as' t)=Value.bool true]):=by kernel_rfl
theorem wda10 {w:World}(lo1 lo2:Nat) (ps as':List P3) (t:Tx):wdaR w lo1 lo2 ps as' t [(8,8,false),(8,19,false),(8,25,true),(8,30,true)]=some (.ret,[decide ((ps.length:Int)>8)=false,decide ((ps.length:Int)>70)=false,decide ((as'.length:Int)>5)=true,decide ((as'.length:Int)<=20)=true,Value.bool (jw ps as' t)=Value.bool true]):=by kernel_rfl
theorem wda11 {w:World}(lo1 lo2:Nat) (ps as':List P3) (t:Tx):wdaR w lo1 lo2 ps as' t [(8,8,false),(8,19,false),(8,25,true),(8,30,false),(8,37,true)]=some (.ret,[decide ((ps.length:Int)>8)=false,decide ((ps.length:Int)>70)=false,decide ((as'.length:Int)>5)=true,decide ((as'.length:Int)<=20)=false,decide ((as'.length:Int)>30)=true,Value.bool (jw ps as' t)=Value.bool true]):=by kernel_rfl
theorem wda12 {w:World}(lo1 lo2:Nat) (ps as':List P3) (t:Tx):wdaR w lo1 lo2 ps as' t [(8,8,false),(8,19,false),(8,25,true),(8,30,false),(8,37,false),(8,42,true)]=some (.ret,[decide ((ps.length:Int)>8)=false,decide ((ps.length:Int)>70)=false,decide ((as'.length:Int)>5)=true,decide ((as'.length:Int)<=20)=false,decide ((as'.length:Int)>30)=false,decide (40<List.length t)=true,Value.bool (jw ps as' t)=Value.bool true]):=by kernel_rfl
theorem wda13 {w:World}(lo1 lo2:Nat) (ps as':List P3) (t:Tx):wdaTnal w lo1 lo2 ps as' t [(8,8,false),(8,19,false),(8,25,true),(8,30,false),(8,37,false),(8,42,false)]=some (.normal,[decide ((ps.length:Int)>8)=false,decide ((ps.length:Int)>70)=false,decide ((as'.length:Int)>5)=true,decide ((as'.length:Int)<=20)=false,decide ((as'.length:Int)>30)=false,decide (40<List.length t)=false,ct (W0 w) (.ls (lst 0 lo1 3 ps f3)) (.ls (lst 0 lo1 3 ps f3)),ct (W0 w) (.ls (lst 0 lo2 3 as' f3)) (.ls (lst 0 lo2 3 as' f3)),str t=str t,0=0,ii (↑0:Int)=Value.int IntKind.i64 0]):=by kernel_rfl
theorem wda14 {w:World}(lo1 lo2:Nat) (ps as':List P3) (t:Tx):wdaR w lo1 lo2 ps as' t [(8,8,false),(8,19,false),(8,25,false),(8,37,true)]=some (.ret,[decide ((ps.length:Int)>8)=false,decide ((ps.length:Int)>70)=false,decide ((as'.length:Int)>5)=false,decide ((as'.length:Int)>30)=true,Value.bool (jw ps as' t)=Value.bool true]):=by kernel_rfl
theorem wda15 {w:World}(lo1 lo2:Nat) (ps as':List P3) (t:Tx):wdaR w lo1 lo2 ps as' t [(8,8,false),(8,19,false),(8,25,false),(8,37,false),(8,42,true)]=some (.ret,[decide ((ps.length:Int)>8)=false,decide ((ps.length:Int)>70)=false,decide ((as'.length:Int)>5)=false,decide ((as'.length:Int)>30)=false,decide (40<List.length t)=true,Value.bool (jw ps as' t)=Value.bool true]):=by kernel_rfl
theorem wda16 {w:World}(lo1 lo2:Nat) (ps as':List P3) (t:Tx):wdaTnal w lo1 lo2 ps as' t [(8,8,false),(8,19,false),(8,25,false),(8,37,false),(8,42,false)]=some (.normal,[decide ((ps.length:Int)>8)=false,decide ((ps.length:Int)>70)=false,decide ((as'.length:Int)>5)=false,decide ((as'.length:Int)>30)=false,decide (40<List.length t)=false,ct (W0 w) (.ls (lst 0 lo1 3 ps f3)) (.ls (lst 0 lo1 3 ps f3)),ct (W0 w) (.ls (lst 0 lo2 3 as' f3)) (.ls (lst 0 lo2 3 as' f3)),str t=str t,0=0,ii (↑0:Int)=Value.int IntKind.i64 0]):=by kernel_rfl
theorem wide_ok (hG:Gr w) (hN:cM) {vs:List Value}(hp:cX (W0 w) w [kv lo1 lo2 ps as' t] vs) :
 Enters Tryz.prog 8/\Calls Tryz.prog 8 vs.toArray w (fun en w'=>∃ v,en=.returned v/\Res (W0 w) (rB (jw ps as' t)) v w'):=by
 refine fn_ok hG hN (ex:=[]) kz (fn:=Tryz.f8) Tryz.func8 (c:=codeOf Tryz.f8) (by kernel_rfl) (args:=[kv lo1 lo2 ps as' t]) rfl (by kernel_rfl) hp (fun hR a hA=>?_);have rest2:∀ a w1,At (W0 w) 108 (wdE lo1 lo2 ps as' t) a w1->GX ps.length as'.length t=false->ps.any uY=false->after Fence.wide 0 Tryz.prog kwide8_nt (Ret (W0 w) Tryz.f8 (Res (W0 w) (rB (jw ps as' t)))) .normal a w1:=by
  intro a w1 hA h0 h1;have hl2:=(Zy h0).2.2.2.1;refine Gz (wdc lo1 lo2 ps as' t) (hR _ rfl) hA (fun a w1 hA=>uk ?_);refine uC (fun i=>wdI 4 lo1 lo2 ps as' t i) (fun i=>i<=as'.length/\(as'.take i).any uY=false) (fun i=>as'.length-i) (L:=kwide8_ntn) (ks:=kwide8_ntnt) (id:=2) (c:=kj kwide8_ntn) (by kernel_rfl) 0 ⟨zero_le _,by simp⟩ hA (fun i a2 w2 hi hA=>?_);rcases eq_false_or_eq_true (decide ((i:Int)<(as'.length:Int))) with q80|q80
  ·skip
   have p80:=of_decide_eq_true q80;rcases eq_false_or_eq_true (ut (as'.getD i default).1) with q89|q89
   ·skip
    have e0:=uP (ps:=ps) (t:=t) (i:=i) (by omega) (Cr q89);refine Gy (wdd0 lo1 lo2 ps as' t i) (hR _ rfl) hA
   ·skip
    rcases eq_false_or_eq_true (ut (as'.getD i default).2.1) with q97|q97
    ·skip
     have e0:=uP (ps:=ps) (t:=t) (i:=i) (by omega) (Cm q97);refine Gy (wdd1 lo1 lo2 ps as' t i) (hR _ rfl) hA
    ·skip
     rcases eq_false_or_eq_true (ut (as'.getD i default).2.2) with q106|q106
     ·skip
      have e0:=uP (ps:=ps) (t:=t) (i:=i) (by omega) (Co q106);refine Gy (wdd2 lo1 lo2 ps as' t i) (hR _ rfl) hA
     ·skip
      refine Gz (wdd3 lo1 lo2 ps as' t i) (hR _ rfl) hA (fun aT wT hT=>?_);exact jY (by kernel_rfl) ⟨i+1,⟨by omega,cdw (by omega) hi.2 (by simp only[uY,q89,q97,q106,Bool.or_false])⟩,hT,by omega⟩
  ·skip
   have p80:=of_decide_eq_false q80;refine Gz (wdd4 lo1 lo2 ps as' t i) (hR _ rfl) hA (fun aT wT hT=>?_);refine ki _ (by kernel_rfl) ?_;obtain rfl:i=as'.length:=by omega
   have h2:as'.any uY=false:=by have:=hi.2;rwa [take_length] at this
   refine cA (hR ⟨[],[],[]⟩ rfl) (.inl rfl) (fun _=>rfl) (fn:=Tryz.f8) (wde lo1 lo2 ps as' t) ?_ hT (fun _ _ h=>h);exact⟨by simp only[jw,h0,h1,h2,Bool.or_false],trivial⟩
 have rest:∀ a w1,At (W0 w) 108 (wdI 3 lo1 lo2 ps as' t 0) a w1->GX ps.length as'.length t=false->after Fence.wide 0 Tryz.prog kwide8_n (Ret (W0 w) Tryz.f8 (Res (W0 w) (rB (jw ps as' t)))) .normal a w1:=by
  intro a w1 hA h0;have hl:=(Zy h0).2.1;refine uC (fun i=>wdI 3 lo1 lo2 ps as' t i) (fun i=>i<=ps.length/\(ps.take i).any uY=false) (fun i=>ps.length-i) (L:=kwide8_n) (ks:=kwide8_nt) (id:=0) (c:=kj kwide8_n) (by kernel_rfl) 0 ⟨zero_le _,by simp⟩ hA (fun i a2 w2 hi hA=>?_);rcases eq_false_or_eq_true (decide ((i:Int)<(ps.length:Int))) with q48|q48
  ·skip
   have p48:=of_decide_eq_true q48;rcases eq_false_or_eq_true (ut (ps.getD i default).1) with q57|q57
   ·skip
    have e0:=uM (as':=as') (t:=t) (i:=i) (by omega) (Cr q57);refine Gy (wdb0 lo1 lo2 ps as' t i) (hR _ rfl) hA
   ·skip
    rcases eq_false_or_eq_true (ut (ps.getD i default).2.1) with q65|q65
    ·skip
     have e0:=uM (as':=as') (t:=t) (i:=i) (by omega) (Cm q65);refine Gy (wdb1 lo1 lo2 ps as' t i) (hR _ rfl) hA
    ·skip
     rcases eq_false_or_eq_true (ut (ps.getD i default).2.2) with q74|q74
     ·skip
      have e0:=uM (as':=as') (t:=t) (i:=i) (by omega) (Co q74);refine Gy (wdb2 lo1 lo2 ps as' t i) (hR _ rfl) hA
     ·skip
      refine Gz (wdb3 lo1 lo2 ps as' t i) (hR _ rfl) hA (fun aT wT hT=>?_);exact jY (by kernel_rfl) ⟨i+1,⟨by omega,cdw (by omega) hi.2 (by simp only[uY,q57,q65,q74,Bool.or_false])⟩,hT,by omega⟩
  ·skip
   have p48:=of_decide_eq_false q48;refine Gz (wdb4 lo1 lo2 ps as' t i) (hR _ rfl) hA (fun aT wT hT=>?_);refine ki _ (by kernel_rfl) ?_;obtain rfl:i=ps.length:=by omega
   have h1:ps.any uY=false:=by have:=hi.2;rwa [take_length] at this
   exact rest2 _ _ hT h0 h1
 rcases eq_false_or_eq_true (decide ((ps.length:Int)>8)) with q8|q8
 ·skip
  have p8:=of_decide_eq_true q8;rcases eq_false_or_eq_true (decide ((ps.length:Int)<=60)) with q13|q13
  ·skip
   have p13:=of_decide_eq_true q13;have e0:=kA (ka ps as' t (by omega));refine Gy (wda0 lo1 lo2 ps as' t) (hR _ rfl) hA
  ·skip
   have p13:=of_decide_eq_false q13;rcases eq_false_or_eq_true (decide ((ps.length:Int)>70)) with q19|q19
   ·skip
    have p19:=of_decide_eq_true q19;have e0:=kA (ka ps as' t (by omega));refine Gy (wda1 lo1 lo2 ps as' t) (hR _ rfl) hA
   ·skip
    have p19:=of_decide_eq_false q19;rcases eq_false_or_eq_true (decide ((as'.length:Int)>5)) with q25|q25
    ·skip
     have p25:=of_decide_eq_true q25;rcases eq_false_or_eq_true (decide ((as'.length:Int)<=20)) with q30|q30
     ·skip
      have p30:=of_decide_eq_true q30;have e0:=kA (ka ps as' t (by omega));refine Gy (wda2 lo1 lo2 ps as' t) (hR _ rfl) hA
     ·skip
      have p30:=of_decide_eq_false q30;rcases eq_false_or_eq_true (decide ((as'.length:Int)>30)) with q37|q37
      ·skip
       have p37:=of_decide_eq_true q37;have e0:=kA (ka ps as' t (by omega));refine Gy (wda3 lo1 lo2 ps as' t) (hR _ rfl) hA
      ·skip
       have p37:=of_decide_eq_false q37;rcases eq_false_or_eq_true (ut t) with q42|q42
       ·skip
        have e0:=kA (uj ps as' t q42);refine Gy (wda4 lo1 lo2 ps as' t) (hR _ rfl) hA
       ·skip
        refine Gz (wda5 lo1 lo2 ps as' t) (hR _ rfl) hA (fun aT wT hT=>?_);exact uk (rest _ _ hT (EI ps as' t (by omega) (by omega) (by omega) (by omega) q42))
    ·skip
     have p25:=of_decide_eq_false q25;rcases eq_false_or_eq_true (decide ((as'.length:Int)>30)) with q37|q37
     ·skip
      have p37:=of_decide_eq_true q37;have e0:=kA (ka ps as' t (by omega));refine Gy (wda6 lo1 lo2 ps as' t) (hR _ rfl) hA
     ·skip
      have p37:=of_decide_eq_false q37;rcases eq_false_or_eq_true (ut t) with q42|q42
      ·skip
       have e0:=kA (uj ps as' t q42);refine Gy (wda7 lo1 lo2 ps as' t) (hR _ rfl) hA
      ·skip
       refine Gz (wda8 lo1 lo2 ps as' t) (hR _ rfl) hA (fun aT wT hT=>?_);exact uk (rest _ _ hT (EI ps as' t (by omega) (by omega) (by omega) (by omega) q42))
 ·skip
  have p8:=of_decide_eq_false q8;rcases eq_false_or_eq_true (decide ((ps.length:Int)>70)) with q19|q19
  ·skip
   have p19:=of_decide_eq_true q19;have e0:=kA (ka ps as' t (by omega));refine Gy (wda9 lo1 lo2 ps as' t) (hR _ rfl) hA
  ·skip
   have p19:=of_decide_eq_false q19;rcases eq_false_or_eq_true (decide ((as'.length:Int)>5)) with q25|q25
   ·skip
    have p25:=of_decide_eq_true q25;rcases eq_false_or_eq_true (decide ((as'.length:Int)<=20)) with q30|q30
    ·skip
     have p30:=of_decide_eq_true q30;have e0:=kA (ka ps as' t (by omega));refine Gy (wda10 lo1 lo2 ps as' t) (hR _ rfl) hA
    ·skip
     have p30:=of_decide_eq_false q30;rcases eq_false_or_eq_true (decide ((as'.length:Int)>30)) with q37|q37
     ·skip
      have p37:=of_decide_eq_true q37;have e0:=kA (ka ps as' t (by omega));refine Gy (wda11 lo1 lo2 ps as' t) (hR _ rfl) hA
     ·skip
      have p37:=of_decide_eq_false q37;rcases eq_false_or_eq_true (ut t) with q42|q42
      ·skip
       have e0:=kA (uj ps as' t q42);refine Gy (wda12 lo1 lo2 ps as' t) (hR _ rfl) hA
      ·skip
       refine Gz (wda13 lo1 lo2 ps as' t) (hR _ rfl) hA (fun aT wT hT=>?_);exact uk (rest _ _ hT (EI ps as' t (by omega) (by omega) (by omega) (by omega) q42))
   ·skip
    have p25:=of_decide_eq_false q25;rcases eq_false_or_eq_true (decide ((as'.length:Int)>30)) with q37|q37
    ·skip
     have p37:=of_decide_eq_true q37;have e0:=kA (ka ps as' t (by omega));refine Gy (wda14 lo1 lo2 ps as' t) (hR _ rfl) hA
    ·skip
     have p37:=of_decide_eq_false q37;rcases eq_false_or_eq_true (ut t) with q42|q42
     ·skip
      have e0:=kA (uj ps as' t q42);refine Gy (wda15 lo1 lo2 ps as' t) (hR _ rfl) hA
     ·skip
      refine Gz (wda16 lo1 lo2 ps as' t) (hR _ rfl) hA (fun aT wT hT=>?_);exact uk (rest _ _ hT (EI ps as' t (by omega) (by omega) (by omega) (by omega) q42))
theorem ccP {xs:List P3}(h:xs.any uY=false):Yu xs:=fun x hx=>by
 have h1:=List.any_eq_false.1 h x hx;simp only[uY,ut,or_eq_true,decide_eq_true_eq] at h1;omega
theorem cim (hN:cM) (lo1 lo2:Nat) (ps as':List P3) (t:Tx):uB 8 [kv lo1 lo2 ps as' t] (fun _=>rB (jw ps as' t)):=fun _ _ hG hp=>wide_ok hG hN hp
theorem zW (h:jw ps as' t=false):Yu ps/\Yu as'/\ps.length<=70/\as'.length<=30/\t.length<=40:=by
 unfold jw at h;rw[Bool.or_eq_false_iff,Bool.or_eq_false_iff] at h;have h1:=Zy h.1.1;exact⟨ccP h.1.2,ccP h.2,h1.2.1,h1.2.2.2.1,h1.2.2.2.2⟩
end
end Pe
end Go.Proofs.YtolcmngcebnjdaaGreatDoor
