/- Part 9. -/
import Derived.Test.YtolcmngcebnjdaaGreatDoorW2
import Derived.KernelRfl
set_option linter.all false
open Go.Lib (hid)
open Nat (le_refl zero_le)

namespace Go.Proofs.YtolcmngcebnjdaaGreatDoor
open Go Go.RowKit Go.Proofs Lim
theorem Es:(Tryz.prog.info? 36).map (fun i=>(i.zero,i.size,i.bytes))=some (some (.int .u64 0),1,8):=by kernel_rfl
def ciy (w:World) (xs:List Nat) (e:Ending) (w':World):Prop :=
 ∃ b cap,e=.returned (.slice (some ⟨b,0,none⟩) xs.length cap)/\w.heap.size<=b/\Blk w' b xs/\xs.length<=cap/\cap<=maxLen/\Below w.heap.size w w'
theorem Uy (a:Addr) (xs:List Nat) (cap:Nat) (w:World) (hbig:(xs.length:Int)<=1099511627776) (hr:∀ j,j<xs.length->w.cell? (a.add j)=some (u (xs[j]?.getD 0))) :
 Calls Tryz.prog 196 #[.slice (some a) xs.length cap] w (ciy w xs):=by
 obtain⟨i0,hi,hz0,hz1,hz2⟩:=info_parts Es;have q:∀ (w:World) (a:Option Addr) (n c n' c':Nat),(binOp .eql 174 (.slice a n c) (.slice none n' c')).run Tryz.prog w=.ok (.bool a.isNone) w:=fun w a n c n' c'=>Lib.run_eql_slice_nil w _ _ a n c n' c' Tryz.underlying174;have A:=hid hr;clear hr
 go_enter Tryz.func196,Tryz.ntmps196
 go_wp2_with (at_builtin;refine wpList_append_own _ rfl _ _ 174 rfl w.heap.size 36 i0 (.int .u64 0) 1 8 Tryz.underlying174 hi hz0 hz1 hz2 rfl (by decide) _ _ _ rfl (World.ownsRow_made w #[] 0 (le_refl _) (zero_le _) rfl) a xs.length cap (xs.map u) rfl ?qc1 ?qc2 ?qc3 ?qc4 ?qc5 ?qc6 ?_)
 case qc1=>simp
 case qc2 =>
  intro j v hj;have hjn:j<xs.length:=by
   have:=(List.getElem?_eq_some_iff.1 hj).1;simpa using this
  refine Lib.cell?_alloc_some _ ?_;rw[A.out j hjn];rw[List.getElem?_map,List.getElem?_eq_getElem hjn] at hj;rw[List.getElem?_eq_getElem hjn];exact hj
 case qc3=>intro v hv;obtain⟨x,_,rfl⟩:=List.mem_map.1 hv;rfl
 case qc4=>unfold maxLen;omega
 case qc5=>omega
 case qc6=>simp
 intro v' w1 hown hgrow hnil;go_wp2
 go_ret
 obtain⟨b,cap',rfl,hb,hB,hl,h1,h2⟩:=Blk.of_owned (xs:=xs) (by simpa using hown) hnil;refine⟨b,cap',rfl,hb,hB,by omega,h2,?_⟩;exact((Below.refl _ w).alloc (le_refl _) _).grown hgrow (by simp) (by intro k hk;simp [Value.ownBlock] at hk;omega)
theorem chX (n cap:Nat) (w:World) :
 Calls Tryz.prog 196 #[.slice none n cap] w fun e w'=>e=.returned (.slice none 0 0)/\w=w':=by
 have q:∀ (w:World) (a:Option Addr) (n c n' c':Nat),(binOp .eql 174 (.slice a n c) (.slice none n' c')).run Tryz.prog w=.ok (.bool a.isNone) w:=fun w a n c n' c'=>Lib.run_eql_slice_nil w _ _ a n c n' c' Tryz.underlying174
 go_enter Tryz.func196,Tryz.ntmps196
 go_wp2
 go_ret
 exact⟨rfl,rfl⟩
end Go.Proofs.YtolcmngcebnjdaaGreatDoor
