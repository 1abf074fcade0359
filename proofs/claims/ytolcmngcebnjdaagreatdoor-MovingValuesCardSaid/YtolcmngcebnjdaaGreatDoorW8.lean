/- Part 8. -/
import Derived.Test.YtolcmngcebnjdaaGreatDoorW2
set_option linter.all false
open Go.Lib (hid)
open List (length_take)
open Nat (le_refl)

namespace Go.Proofs.YtolcmngcebnjdaaGreatDoor
open Go Go.RowKit Go.Proofs Lim
theorem KH {l:List Nat}{k:Nat}(hk:k<l.length) (h0:l[k]?.getD 0=0):val (l.take (k+1))=val (l.take k):=by
 rw[jm l k hk,h0];simp
theorem cbb {l:List Nat}{k:Nat}(hk:k<l.length) (h0:l[k]?.getD 0≠0):Zp (l.take (k+1)):=by
 intro hne;simp only[Kz l k hk,List.getLast_append,List.getLast_singleton];simpa using h0
def NatPost (w:World) (n:Nat) (e:Ending) (w':World):Prop:=∃ v,e=.returned v/\cr w v n/\w=w'
theorem ym (xs:List Nat) (v:Value) (w:World) (hv:Sl w v xs) (hmax:(xs.length:Int)<=4611686018427387904) :
 Calls Tryz.prog 185 #[v] w (NatPost w (val xs)):=by
 obtain⟨⟨ao,cap,rfl,hc1,hc2,hr⟩,hok,typ⟩:=hv;have HTy:=hid typ;clear typ;unfold maxLen at hc2;have HR:=hid hr;have HO:=hid hok;clear hr hok
 go_enter Tryz.func185,Tryz.ntmps185
 go_wp2_with fail
 go_loop [3] (fun i=>∃ k,k<=xs.length/\i=.int .i64 (k:Int)/\val (xs.take k)=val xs) (fun i=>(intOf i).toNat)
 case atStart=>exact⟨xs.length,le_refl _,rfl,by simp⟩
 case round =>
  obtain⟨k,hk,rfl,hval⟩:=hrel;have HV:=hid hval;clear hval;by_cases hk0:0<k
  ·obtain⟨j,rfl⟩:∃ j,k=j+1:=⟨k-1,by omega⟩;obtain⟨b,off,rfl,hrow⟩:=HR.out (by omega);have hcell:w.cell? ⟨b,off+j,none⟩=some (u (xs[j]?.getD 0)):=hrow j (by omega);have HRow:=hid hrow;clear hrow;by_cases hz:xs[j]?.getD 0=0
   ·have hzz:=hz;rw[hz] at hcell;have HZ:=hid hzz;clear hz hzz;go_wp2_with fail
    go_round
    case rel=>exact⟨j,by omega,rfl,by rw[← HV.out,KH (by omega) HZ.out]⟩
    case measure=>simp [intOf]
   ·have HZ:=hid hz;have hb:(((xs[j]?.getD 0:Nat):Int) == 0)=false:=by rw[beq_eq_false_iff_ne];omega
    generalize hsg:xs[j]?.getD 0=s at *;have H2:=hid hsg;clear hsg hz;go_wp2_with fail
    go_ret
    have hlt:(xs.take (j+1)).length=j+1:=by rw[length_take];omega
    refine⟨_,rfl,⟨xs.take (j+1),⟨⟨some ⟨b,off,none⟩,j+1,by rw[hlt];rfl,by omega,by unfold maxLen;omega,fun _=>⟨b,off,rfl,?_⟩⟩,HO.out.take _,?_⟩,cbb (by omega) (by rw[H2.out];intro h;subst h;simp at hb),HV.out⟩,rfl⟩
    ·intro i hi;rw[HRow.out i (by omega),List.getElem?_take,if_pos (by omega)]
    ·intro a n c e _;injection e with e
     exact HTy.out a _ _ (by rw[e]) (by omega)
  ·obtain rfl:k=0:=by omega
   clear hk0;go_wp2_with fail
   go_ret
   refine⟨_,rfl,⟨[],⟨⟨ao,0,rfl,by simp,by unfold maxLen;omega,fun h=>absurd h (by simp)⟩,Ok.nil,fun a n c e hn=>by injection e with _ e;omega⟩,fun h=>absurd rfl h,by simpa using HV.out⟩,rfl⟩
theorem Jx (x:Nat) (w:World) (hx:x<B):Calls Tryz.prog 154 #[u x] w (Je w x):=by
 go_enter Tryz.func154,Tryz.ntmps154
 go_wp2_with fail;have hb:Blk (w.alloc (.cells ([x].map u).toArray 36)) w.heap.size [x]:=Blk.new w [x];have hs:=Sl.of_blk hb (Ok.nil.cons hx) 0 1 1 (by simp) (by simp) (by unfold maxLen;omega);refine(ym [x] _ _ hs (by simp)).mono ?_;rintro e w' ⟨v,rfl,hn,rfl⟩;go_wp2_with fail
 go_ret
 exact⟨v,rfl,by simpa [val] using hn,(Below.refl _ _).alloc (le_refl _) _⟩
end Go.Proofs.YtolcmngcebnjdaaGreatDoor
