/- Package exact: ClsSp LawArith. -/
import Derived.Test.YtccabfblgjcboaaGreatDoorV23
import Derived.Great.BuildSlice
import Derived.Test.YtccabfblgjcboaaGreatDoorV24
set_option linter.all false

namespace Go.Proofs.YtccabfblgjcboaaGreatDoor
open Go Go.RowKit Go.Proofs Lim
namespace Sym
section
variable {csz : List Nat} {numc : List Bool} {okT : List Nat} {nt : Nat} {cl : List Cl} {w0 : World} {w : World} {v : Value} {p1 p2 p3 p4 : jw} {c d c1 c2 c3 c4 c5 c6 : Nat} {r s t r1 r2 r3 r4 : Rat} {k k1 k2 k3 k4 k5 k6 : Nat}
theorem siz_l1 {a b : Rat} (za : cF a k) (zb : cF b k) : cF (cJ a [b]) k := lowOf_siz za (by intro x hx; simp at hx; subst hx; exact zb)
theorem siz_h1 {a b : Rat} (za : cF a k) (zb : cF b k) : cF (cC a [b]) k := highOf_siz za (by intro x hx; simp at hx; subst hx; exact zb)
theorem e_has {x : Bool} (h1 : PS csz numc okT nt cl w0 p1 r1 k1 r2 k2) (h3 : PQ csz numc okT nt cl w0 p3 r k3) (hk : fits (k1 + k2 + k3) 1000000 = true) (hx : jv r1 r2 r = x) :
 V csz numc okT nt cl w0 (.call 56) [p1, p3] (.val (vp (.bool x))) := by
 have hk := fits_le hk
 refine ⟨enters_of Tryz.func56 (by kernel_rfl) rfl, fun w vs hb hvs => ?_⟩
 obtain ⟨v1, _, rfl, h7, v2, _, rfl, h8, rfl⟩ := hvs
 have h7 := h1 _ _ h7
 have h8 := h3 _ _ h8
 refine (has_any v1 v2 r1 r2 r (k1 + k2 + k3) w h7.1 h8.1 (h7.2.1.le (by omega)) (h7.2.2.le (by omega)) (h8.2.le (by omega)) (by omega)).mono ?_
 rintro e w' ⟨rfl, hb'⟩
 rw [hx]
 exact ⟨_, rfl, vp_r _ _ _, hb'⟩
theorem e_at (hG : Gr w0) {m : Nat} (hm : m ≤ 255) (h1 : PS csz numc okT nt cl w0 p1 r1 k1 r2 k2) (h3 : cl[c3]? = some (clV (.int .u8 (m : Int)))) (h5 : cl[c5]? = some (cQ (r1 + (r2 - r1) * partOf m) k5)) (z1 : cF r1 20) (z2 : cF r2 20) (hk : fits 70 k5 = true) :
 V csz numc okT nt cl w0 (.call 73) [p1, op c3] (.val (qp c5)) := by
 have hk := fits_le hk
 refine ⟨enters_of Tryz.func73 (by kernel_rfl) rfl, fun w vs hb hvs => ?_⟩
 obtain ⟨v1, _, rfl, h7, v2, _, rfl, h8, rfl⟩ := hvs
 have h7 := h1 _ _ h7
 have h8 := (op_is h3).1 h8
 subst h8
 refine (at_any v1 r1 r2 m w h7.1 hm z1 z2 (hG.below hb hG.size)).mono ?_
 rintro e w' ⟨v, rfl, hv, hb'⟩
 have zk : cF (partOf m) 2 := (siz_int (m : Int) (by omega) (by omega)).div (siz_int 255 (by decide) (by decide)) (by decide)
 exact ⟨v, rfl, (qp_is h5).2 ⟨hv, (z1.add ((z2.sub z1).mul zk)).le (by omega)⟩, hb'⟩
end
end Sym
open Go Go.RowKit Go.Proofs Lim
namespace Sym
section
variable {csz : List Nat} {numc : List Bool} {okT : List Nat} {nt : Nat} {cl : List Cl} {w0 : World} {w : World} {v z : Value} {p1 p2 p3 p4 : jw} {res : RPat} {c d c1 c2 c3 c4 c5 c6 : Nat} {a b l : List UInt8} {r s : Rat} {k k1 k2 k3 : Nat} {i j : Int}
theorem e_signx (h1 : PQ csz numc okT nt cl w0 p1 r k1) (h3 : RV csz numc okT nt cl w0 res (ii (sign r))) : V csz numc okT nt cl w0 (.call 19) [p1] res := by
 refine ⟨enters_of Tryz.func19 (by kernel_rfl) rfl, fun w vs hb hvs => ?_⟩
 obtain ⟨v1, _, rfl, h4, rfl⟩ := hvs
 refine (sign_q v1 r w (h1 _ _ h4).1).mono ?_
 rintro e w' ⟨rfl, hb'⟩
 exact ⟨_, rfl, h3 w', hb'⟩
end
section
variable {csz : List Nat} {numc : List Bool} {okT : List Nat} {nt : Nat} {cl : List Cl} {w0 : World} {w : World} {p1 p2 : jw} {c1 c2 : Nat} {l : List UInt8} {r : Rat} {k1 k2 : Nat}
end
section
variable {la lb : List UInt8} {r s o : Rat} {w : World}
end
end Sym
end Go.Proofs.YtccabfblgjcboaaGreatDoor
