/- Part 7. -/
import Derived.Test.YtolcmngcebnjdaaGreatDoorW2
import Derived.Shelf.Spec.BitsCarry
import Derived.KernelRfl
set_option linter.all false
open Go.Lib (hid)
open List (drop_drop length_set)
open Nat (add_assoc le_refl lt_of_le_of_lt mul_add mul_assoc mul_le_mul one_mul pow_add pow_succ zero_le)

namespace Go.Proofs.YtolcmngcebnjdaaGreatDoor
open Go Go.RowKit Go.Proofs Lim
theorem Ka (x y:Nat) (w:World) :
 (callFunc 179 #[.int .u64 (x:Int),.int .u64 (y:Int),.int .u64 0]).run Tryz.prog w =
  .ok (.value (.tuple #[u (yJ x y),u (uF x y)])) w:=by
 rw[run_callFunc_extern Tryz.func179 (by kernel_rfl) (by kernel_rfl) (by kernel_rfl) (e:=add64Entry) (by kernel_rfl)];rfl
theorem UT (x y:Nat) (w:World) :
 (callFunc 232 #[.int .u64 (x:Int),.int .u64 (y:Int),.int .u64 0]).run Tryz.prog w =
  .ok (.value (.tuple #[u (zx x y),u (EZ x y)])) w:=by
 rw[run_callFunc_extern Tryz.func232 (by kernel_rfl) (by kernel_rfl) (by kernel_rfl) (e:=sub64Entry) (by kernel_rfl)];rfl
theorem caw (x y:Nat) (hx:x<B) (hy:y<B) (w:World) :
 Calls Tryz.prog 163 #[u x,u y] w fun e w'=>e=.returned (.tuple #[u (kt x y),u (jy x y)])/\w=w' :=
 (Tryz.bits_Mul64 x y hx hy w).mono fun _ _ ⟨h,h'⟩=>⟨h,h'.symm⟩
theorem cjg {s y f c:Nat}(hs:s<B) (hy:y<B) (hf:f<B) (hc:c<B) :
 yJ s (yJ (jy y f) c)+B*(kt y f+uF (jy y f) c+uF s (yJ (jy y f) c))=s+y*f+c/\
  kt y f+uF (jy y f) c+uF s (yJ (jy y f) c)<B:=by
 have h1:=YH y f;have h2:=Wj (jy y f) c;have h3:=Wj s (yJ (jy y f) c);have e:yJ s (yJ (jy y f) c)+B*(kt y f+uF (jy y f) c+uF s (yJ (jy y f) c))=s+y*f+c:=by
  rw[mul_add,mul_add];omega
 refine⟨e,?_⟩;have i1:y*f<=(B-1)*(B-1):=mul_le_mul (by omega) (by omega);have i2:(B-1)*(B-1)+2*(B-1)+1=B*B:=by
  have:B=(B-1)+1:=by have:=jJ;omega
  generalize B-1=k at *;rw[this];grind
 have i3:B*(kt y f+uF (jy y f) c+uF s (yJ (jy y f) c))<B*B:=by omega
 exact Nat.lt_of_mul_lt_mul_left i3
attribute [local go_sem] Ka UT
structure Cy (L L':List Nat) (so n x c:Nat):Prop where
 len:L'.length=L.length
 ok:Ok L'
 low:L'.take so=L.take so
 high:L'.drop (so+n)=L.drop (so+n)
 sum:val L'+B^(so+n)*c=val L+B^so*x
structure zD (L L':List Nat) (so n x c:Nat):Prop where
 len:L'.length=L.length
 ok:Ok L'
 low:L'.take so=L.take so
 high:L'.drop (so+n)=L.drop (so+n)
 sum:val L'+B^so*x=val L+B^(so+n)*c
theorem WD (l:List Nat) (k v so:Nat) (h:so<=k):(l.set k v).take so=l.take so:=by
 rw[List.take_set,List.set_eq_of_length_le (by simp;omega)]
theorem Wq (l:List Nat) (k v so:Nat) (h:k<so):(l.set k v).drop so=l.drop so:=by
 rw[List.drop_set,if_pos h]
theorem Cy.start (L:List Nat) (so:Nat) (h:Ok L):Cy L L so 0 0 0:=⟨rfl,h,rfl,rfl,by simp⟩
theorem zD.start (L:List Nat) (so:Nat) (h:Ok L):zD L L so 0 0 0:=⟨rfl,h,rfl,rfl,by simp⟩
theorem Cy.step {L L':List Nat}{so k x c s' c' y:Nat}(h:Cy L L' so k x c) (hk:so+k<L.length) (hs':s'<B)
 (e:s'+B*c'=L'[so+k]?.getD 0+y+c):Cy L (L'.set (so+k) s') so (k+1) (x+B^k*y) c':=by
 refine⟨by rw[length_set,h.len],h.ok.set _ _ hs',by rw[WD _ _ _ _ (by omega),h.low],?_,?_⟩
 ·rw[Wq _ _ _ _ (by omega),show so+(k+1)=so+k+1 from rfl,← drop_drop,h.high,drop_drop]
 ·have h1:=GB L' (so+k) s' (by rw[h.len];exact hk);have h2:=h.sum;have e2:B^(so+k)*s'+B^(so+k)*B*c'=B^(so+k)*L'[so+k]?.getD 0+B^(so+k)*y+B^(so+k)*c:=by
   rw[mul_assoc,← mul_add,e,mul_add,mul_add]
  have e3:B^(so+(k+1))=B^(so+k)*B:=by rw[← add_assoc,pow_succ]
  have e4:B^so*(x+B^k*y)=B^so*x+B^(so+k)*y:=by rw[mul_add,← mul_assoc,← pow_add]
  rw[e3,e4];omega
theorem zD.step {L L':List Nat}{so k x c s' c' y:Nat}(h:zD L L' so k x c) (hk:so+k<L.length) (hs':s'<B)
 (e:s'+y+c=L'[so+k]?.getD 0+B*c'):zD L (L'.set (so+k) s') so (k+1) (x+B^k*y) c':=by
 refine⟨by rw[length_set,h.len],h.ok.set _ _ hs',by rw[WD _ _ _ _ (by omega),h.low],?_,?_⟩
 ·rw[Wq _ _ _ _ (by omega),show so+(k+1)=so+k+1 from rfl,← drop_drop,h.high,drop_drop]
 ·have h1:=GB L' (so+k) s' (by rw[h.len];exact hk);have h2:=h.sum;have e2:B^(so+k)*s'+B^(so+k)*y+B^(so+k)*c=B^(so+k)*L'[so+k]?.getD 0+B^(so+k)*B*c':=by
   rw[mul_assoc,← mul_add,← mul_add,e,mul_add]
  have e3:B^(so+(k+1))=B^(so+k)*B:=by rw[← add_assoc,pow_succ]
  have e4:B^so*(x+B^k*y)=B^so*x+B^(so+k)*y:=by rw[mul_add,← mul_assoc,← pow_add]
  rw[e3,e4];omega
theorem Cy.wider {L L':List Nat}{so k n x:Nat}(h:Cy L L' so k x 0) (hk:k<=n):Cy L L' so n x 0:=by
 refine⟨h.len,h.ok,h.low,?_,by simpa using h.sum⟩;rw[show so+n=so+k+(n-k) from by omega,← drop_drop,h.high,drop_drop]
theorem zD.wider {L L':List Nat}{so k n x:Nat}(h:zD L L' so k x 0) (hk:k<=n):zD L L' so n x 0:=by
 refine⟨h.len,h.ok,h.low,?_,by simpa using h.sum⟩;rw[show so+n=so+k+(n-k) from by omega,← drop_drop,h.high,drop_drop]
def chg (w:World) (b so n:Nat) (L:List Nat) (x:Nat) (e:Ending) (w':World):Prop :=
 e=.returned (.tuple #[])/\jn b w w'/\∃ c L',Blk w' b L'/\Cy L L' so n x c
def AddRel (w:World) (b so:Nat) (L:List Nat) (k x:Nat) (carry i:Value) (wr:World):Prop :=
 ∃ c L',i=.int .i64 (k:Int)/\carry=u c/\c<B/\Blk wr b L'/\Cy L L' so k x c/\jn b w wr
theorem CJ (b so n:Nat) (scap ycap:Nat) (L Y:List Nat) (ya:Option Addr) (f:Nat) (w:World)
 (hL:Blk w b L) (hn:so+n<=L.length) (hlen:Y.length<=n) (hmax:(n:Int)<=4611686018427387904) (hf:f<B) (okL:Ok L) (okY:Ok Y)
 (hY:0<Y.length->∃ yb yo,ya=some ⟨yb,yo,none⟩/\yb≠b/\Row w yb yo Y) :
 Calls Tryz.prog 184 #[.slice (some ⟨b,so,none⟩) n scap,.slice ya Y.length ycap,u f] w (chg w b so n L (f*val Y)):=by
 have HY:=hid hY;have HL:=hid hL;have HokL:=hid okL;have HokY:=hid okY;clear hY hL okL okY
 go_enter Tryz.func184,Tryz.ntmps184
 go_wp2_with fail
 go_loopw [6,15] (fun carry i wr=>∃ k,k<=Y.length/\AddRel w b so L k (f*val (Y.take k)) carry i wr) (fun _ i _=>Y.length-(intOf i).toNat)
 case atStart=>exact⟨0,zero_le _,0,L,rfl,rfl,jJ,HL.out,by simpa [val] using Cy.start L so HokL.out,jn.refl b w⟩
 case round =>
  obtain⟨k,hk,c,L',rfl,rfl,hc,hB,hA,hO⟩:=hrel;by_cases hlt:k<Y.length
  ·obtain⟨yb,yo,rfl,hyb,hrow⟩:=HY.out (by omega);have hlen':L'.length=L.length:=hA.len;have hyc:wr.cell? ⟨yb,yo+k,none⟩=some (u (Y[k]?.getD 0)):=(hO.cell (p:=⟨yb,yo+k,none⟩) hyb).trans (hrow k hlt);have hsc:wr.cell? ⟨b,so+k,none⟩=some (u (L'[so+k]?.getD 0)):=hB.cell (so+k) (by omega);have hfz:wr.frozen? ⟨b,so+k,none⟩=false:=hB.frozen _;have hy:Y[k]?.getD 0<B:=HokY.out.get k;have hs:L'[so+k]?.getD 0<B:=hA.ok.get _;generalize hyg:Y[k]?.getD 0=y at *;generalize hsg:L'[so+k]?.getD 0=s at *;have HA:=hid hA;have HB:=hid hB;have HO:=hid hO;have H1:=hid hyg;have H2:=hid hsg;have H3:=hid hlen';have H4:=hid (cjg hs hy hf hc);clear hA hB hO hyg hsg hlen' hrow;go_wp2_with (go_at_call 163;refine(caw _ _ (by assumption) (by assumption) _).mono ?_;rintro e w' ⟨rfl,rfl⟩)
   go_roundw
   case rel =>
    refine⟨k+1,by omega,_,_,by go_num,by rw[cbl H4.out.2],H4.out.2,HB.out.set (so+k) _ (by have:=HA.out.len;omega),?_,HO.out.set (so+k) _⟩;rw[jm _ _ hlt,H1.out,mul_add,show f*(B^k*y)=B^k*(y*f) from by grind];exact HA.out.step (by omega) (Jn _ _) (by rw[H2.out];exact H4.out.1)
   case measure=>simp [intOf];omega
  ·have hkn:k=Y.length:=by omega
   subst hkn;have HA:=hid hA;have HB:=hid hB;have HO:=hid hO;clear hA hB hO;go_wp2_with fail;have hle:=hlen;obtain⟨k0,hk0⟩:∃ k0,k0=Y.length:=⟨_,rfl⟩;have HK:=hid hk0;obtain⟨w1,hw1⟩:∃ w1,w1=wr:=⟨_,rfl⟩;subst hw1
   go_loopw [6,12] (fun carry i wr=>∃ k,Y.length<=k/\k<=n/\AddRel w b so L k (f*val Y) carry i wr) (fun _ i _=>n-(intOf i).toNat)
   case atStart=>exact⟨Y.length,le_refl _,hlen,c,L',rfl,rfl,hc,HB.out,by simpa using HA.out,HO.out⟩
   case round =>
    clear HA HB HO;obtain⟨k,hk1,hk2,c,L',rfl,rfl,hc,hB,hA,hO⟩:=hrel;have HA:=hid hA;have HB:=hid hB;have HO:=hid hO;clear hA hB hO;by_cases hc0:c=0
    ·have hcb:(((c:Nat):Int) != 0)=false:=by subst hc0;rfl
     clear hc0;go_wp2_with fail
     go_end0
     refine⟨rfl,HO.out,0,L',HB.out,?_⟩;have h0:c=0:=by simpa using hcb
     subst h0;exact HA.out.wider hk2
    ·have hcb:(((c:Nat):Int) != 0)=true:=by rw[bne_iff_ne];omega
     clear hc0;by_cases hlt2:k<n
     ·have hlen':L'.length=L.length:=HA.out.len;have hsc:wr.cell? ⟨b,so+k,none⟩=some (u (L'[so+k]?.getD 0)):=HB.out.cell (so+k) (by omega);have hfz:wr.frozen? ⟨b,so+k,none⟩=false:=HB.out.frozen _;generalize hsg:L'[so+k]?.getD 0=s at *;have H2:=hid hsg;have H3:=hid hlen';have H4:=Wj s c;have HH4:=hid H4;clear H4 hsg hlen';go_wp2_with fail
      go_roundw
      case rel =>
       refine⟨k+1,by omega,by omega,_,_,by go_num,rfl,?_,HB.out.set (so+k) _ (by have:=HA.out.len;omega),?_,HO.out.set (so+k) _⟩
       ·exact lt_of_le_of_lt (cdk (by rw[← H2.out];exact HA.out.ok.get _) hc) (by decide)
       ·have:=HA.out.step (y:=0) (by omega) (Jn s c) (c':=uF s c) (by rw[H2.out,HH4.out];omega);simpa using this
      case measure=>simp [intOf];omega
     ·go_wp2_with fail
      go_end0
      obtain rfl:k=n:=by omega
      exact⟨rfl,HO.out,c,L',HB.out,HA.out⟩
theorem CE (b so n:Nat) (scap ycap:Nat) (L Y:List Nat) (ya:Option Addr) (w:World)
 (hL:Blk w b L) (hn:so+n<=L.length) (hlen:Y.length<=n) (hmax:(n:Int)<=4611686018427387904) (okL:Ok L) (okY:Ok Y)
 (hY:0<Y.length->∃ yb yo,ya=some ⟨yb,yo,none⟩/\yb≠b/\Row w yb yo Y) :
 Calls Tryz.prog 184 #[.slice (some ⟨b,so,none⟩) n scap,.slice ya Y.length ycap,.int .u64 1] w (chg w b so n L (val Y)):=by
 have:=CJ b so n scap ycap L Y ya 1 w hL hn hlen hmax (by decide) okL okY hY;rw[one_mul] at this;exact this
attribute [local go_sem] Ka UT
theorem cig {s y f c:Nat}(hs:s<B) (hy:y<B) (hf:f<B) (hc:c<B) :
 zx s (yJ (jy y f) c)+y*f+c=s+B*(kt y f+uF (jy y f) c+EZ s (yJ (jy y f) c))/\
  kt y f+uF (jy y f) c+EZ s (yJ (jy y f) c)<B:=by
 have h1:=YH y f;have h2:=Wj (jy y f) c;have h3:=cbY hs (Jn (jy y f) c);have h4:=Ul s (yJ (jy y f) c);have e:zx s (yJ (jy y f) c)+y*f+c=s+B*(kt y f+uF (jy y f) c+EZ s (yJ (jy y f) c)):=by
  rw[mul_add,mul_add];omega
 refine⟨e,?_⟩;have i1:y*f<=(B-1)*(B-1):=mul_le_mul (by omega) (by omega);have i2:(B-1)*(B-1)+2*(B-1)+1=B*B:=by
  have:B=(B-1)+1:=by have:=jJ;omega
  generalize B-1=k at *;rw[this];grind
 have i3:B*(kt y f+uF (jy y f) c+EZ s (yJ (jy y f) c))<B*B:=by omega
 exact Nat.lt_of_mul_lt_mul_left i3
def cdS (w:World) (b so n:Nat) (L:List Nat) (x:Nat) (e:Ending) (w':World):Prop :=
 ∃ c L',c<B/\e=.returned (u c)/\jn b w w'/\Blk w' b L'/\zD L L' so n x c
def cgq (w:World) (b so:Nat) (L:List Nat) (k x:Nat) (carry i:Value) (wr:World):Prop :=
 ∃ c L',i=.int .i64 (k:Int)/\carry=u c/\c<B/\Blk wr b L'/\zD L L' so k x c/\jn b w wr
theorem Cf (b so n:Nat) (scap ycap:Nat) (L Y:List Nat) (ya:Option Addr) (f:Nat) (w:World)
 (hL:Blk w b L) (hn:so+n<=L.length) (hlen:Y.length<=n) (hmax:(n:Int)<=4611686018427387904) (hf:f<B) (okL:Ok L) (okY:Ok Y)
 (hY:0<Y.length->∃ yb yo,ya=some ⟨yb,yo,none⟩/\yb≠b/\Row w yb yo Y) :
 Calls Tryz.prog 216 #[.slice (some ⟨b,so,none⟩) n scap,.slice ya Y.length ycap,u f] w (cdS w b so n L (f*val Y)):=by
 have HY:=hid hY;have HL:=hid hL;have HokL:=hid okL;have HokY:=hid okY;clear hY hL okL okY
 go_enter Tryz.func216,Tryz.ntmps216
 go_wp2_with fail
 go_loopw [6,15] (fun carry i wr=>∃ k,k<=Y.length/\cgq w b so L k (f*val (Y.take k)) carry i wr) (fun _ i _=>Y.length-(intOf i).toNat)
 case atStart=>exact⟨0,zero_le _,0,L,rfl,rfl,jJ,HL.out,by simpa [val] using zD.start L so HokL.out,jn.refl b w⟩
 case round =>
  obtain⟨k,hk,c,L',rfl,rfl,hc,hB,hA,hO⟩:=hrel;by_cases hlt:k<Y.length
  ·obtain⟨yb,yo,rfl,hyb,hrow⟩:=HY.out (by omega);have hlen':L'.length=L.length:=hA.len;have hyc:wr.cell? ⟨yb,yo+k,none⟩=some (u (Y[k]?.getD 0)):=(hO.cell (p:=⟨yb,yo+k,none⟩) hyb).trans (hrow k hlt);have hsc:wr.cell? ⟨b,so+k,none⟩=some (u (L'[so+k]?.getD 0)):=hB.cell (so+k) (by omega);have hfz:wr.frozen? ⟨b,so+k,none⟩=false:=hB.frozen _;have hy:Y[k]?.getD 0<B:=HokY.out.get k;have hs:L'[so+k]?.getD 0<B:=hA.ok.get _;generalize hyg:Y[k]?.getD 0=y at *;generalize hsg:L'[so+k]?.getD 0=s at *;have HA:=hid hA;have HB:=hid hB;have HO:=hid hO;have H1:=hid hyg;have H2:=hid hsg;have H3:=hid hlen';have H4:=hid (cig hs hy hf hc);clear hA hB hO hyg hsg hlen' hrow;go_wp2_with (go_at_call 163;refine(caw _ _ (by assumption) (by assumption) _).mono ?_;rintro e w' ⟨rfl,rfl⟩)
   go_roundw
   case rel =>
    refine⟨k+1,by omega,_,_,by go_num,by rw[cbl H4.out.2],H4.out.2,HB.out.set (so+k) _ (by have:=HA.out.len;omega),?_,HO.out.set (so+k) _⟩;rw[jm _ _ hlt,H1.out,mul_add,show f*(B^k*y)=B^k*(y*f) from by grind];exact HA.out.step (by omega) (Ul _ _) (by rw[H2.out];exact H4.out.1)
   case measure=>simp [intOf];omega
  ·have hkn:k=Y.length:=by omega
   subst hkn;have HA:=hid hA;have HB:=hid hB;have HO:=hid hO;clear hA hB hO;go_wp2_with fail;have hle:=hlen;obtain⟨k0,hk0⟩:∃ k0,k0=Y.length:=⟨_,rfl⟩;have HK:=hid hk0;obtain⟨w1,hw1⟩:∃ w1,w1=wr:=⟨_,rfl⟩;subst hw1
   go_loopw [6,12] (fun carry i wr=>∃ k,Y.length<=k/\k<=n/\cgq w b so L k (f*val Y) carry i wr) (fun _ i _=>n-(intOf i).toNat)
   case atStart=>exact⟨Y.length,le_refl _,hlen,c,L',rfl,rfl,hc,HB.out,by simpa using HA.out,HO.out⟩
   case round =>
    clear HA HB HO;obtain⟨k,hk1,hk2,c,L',rfl,rfl,hc,hB,hA,hO⟩:=hrel;have HA:=hid hA;have HB:=hid hB;have HO:=hid hO;clear hA hB hO;by_cases hc0:c=0
    ·have hcb:(((c:Nat):Int) != 0)=false:=by subst hc0;rfl
     clear hc0;go_wp2_with fail
     go_ret
     have h0:c=0:=by simpa using hcb
     subst h0;exact⟨0,L',jJ,rfl,HO.out,HB.out,HA.out.wider hk2⟩
    ·have hcb:(((c:Nat):Int) != 0)=true:=by rw[bne_iff_ne];omega
     clear hc0;by_cases hlt2:k<n
     ·have hlen':L'.length=L.length:=HA.out.len;have hsc:wr.cell? ⟨b,so+k,none⟩=some (u (L'[so+k]?.getD 0)):=HB.out.cell (so+k) (by omega);have hfz:wr.frozen? ⟨b,so+k,none⟩=false:=HB.out.frozen _;generalize hsg:L'[so+k]?.getD 0=s at *;have H2:=hid hsg;have H3:=hid hlen';have H4:=cbY (x:=s) (y:=c) (by rw[← hsg];exact HA.out.ok.get _) hc;have HH4:=hid H4;clear H4 hsg hlen';go_wp2_with fail
      go_roundw
      case rel =>
       refine⟨k+1,by omega,by omega,_,_,by go_num,rfl,?_,HB.out.set (so+k) _ (by have:=HA.out.len;omega),?_,HO.out.set (so+k) _⟩
       ·exact lt_of_le_of_lt (cdb s c) (by decide)
       ·have:=HA.out.step (y:=0) (by omega) (Ul s c) (c':=EZ s c) (by rw[H2.out,← HH4.out];omega);simpa using this
      case measure=>simp [intOf];omega
     ·go_wp2_with fail
      go_ret
      obtain rfl:k=n:=by omega
      exact⟨c,L',hc,rfl,HO.out,HB.out,HA.out⟩
theorem UA (b so n:Nat) (scap ycap:Nat) (L Y:List Nat) (ya:Option Addr) (w:World)
 (hL:Blk w b L) (hn:so+n<=L.length) (hlen:Y.length<=n) (hmax:(n:Int)<=4611686018427387904) (okL:Ok L) (okY:Ok Y)
 (hY:0<Y.length->∃ yb yo,ya=some ⟨yb,yo,none⟩/\yb≠b/\Row w yb yo Y) :
 Calls Tryz.prog 216 #[.slice (some ⟨b,so,none⟩) n scap,.slice ya Y.length ycap,.int .u64 1] w (cdS w b so n L (val Y)):=by
 have:=Cf b so n scap ycap L Y ya 1 w hL hn hlen hmax (by decide) okL okY hY;rw[one_mul] at this;exact this
end Go.Proofs.YtolcmngcebnjdaaGreatDoor
