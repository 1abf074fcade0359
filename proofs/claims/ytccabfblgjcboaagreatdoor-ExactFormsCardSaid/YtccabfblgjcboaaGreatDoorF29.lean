/- Package exact: ClsSp LawArith. -/
import Derived.Test.YtccabfblgjcboaaGreatDoorF23
import Derived.Great.BuildSlice
import Derived.Test.YtccabfblgjcboaaGreatDoorF28
set_option linter.all false

namespace Go.Proofs.YtccabfblgjcboaaGreatDoor
open Go Go.RowKit Go.Proofs Lim
namespace Sym
section
variable {csz : List Nat} {numc : List Bool} {okT : List Nat} {nt : Nat} {cl : List Cl} {w0 : World} {w : World} {v : Value} {p1 p2 p3 p4 : jQ} {c d c1 c2 c3 c4 c5 c6 : Nat} {r s t r1 r2 r3 r4 : Rat} {k k1 k2 k3 k4 k5 k6 : Nat}
theorem siz_l1 {a b : Rat} (za : cB a k) (zb : cB b k) : cB (jq a [b]) k := lowOf_siz za (by intro x hx; simp at hx; subst hx; exact zb)
theorem siz_h1 {a b : Rat} (za : cB a k) (zb : cB b k) : cB (cY a [b]) k := highOf_siz za (by intro x hx; simp at hx; subst hx; exact zb)
theorem cmp3 (r s : Rat) : jN r s = -1 ∨ jN r s = 0 ∨ jN r s = 1 := by
 unfold jN
 split
 · exact .inl rfl
 · split
   · exact .inr (.inr rfl)
   · exact .inr (.inl rfl)
end
end Sym
open Go Go.RowKit Go.Proofs Lim
namespace Sym
section
variable {csz : List Nat} {numc : List Bool} {okT : List Nat} {nt : Nat} {cl : List Cl} {w0 : World} {w : World} {v z : Value} {p1 p2 p3 p4 : jQ} {res : RPat} {c d c1 c2 c3 c4 c5 c6 : Nat} {a b l : List UInt8} {r s : Rat} {k k1 k2 k3 : Nat} {i j : Int}
end
theorem both_ok (l : List UInt8) (r : Rat) (k : Nat) (w : World) (hG : Gr w) (hl : l.length ≤ 100000) (hr : (jw l).1 = r) (z : cB r k) : Calls Tryz.prog 24 #[je l] w (fun e w' => ∃ x y, e = .returned (.tuple #[x, y]) ∧ js w' x r ∧ RQ w' y r ∧ Below w.heap.size w w') := by
 have hC : (mkC [1, 4, 3, 1] [true, true, true, true] [26, 33] 20 [jm (je l), clQ r k, cN r k, jm (ii (jw l).2)] w).Ok := cL (cb (jD _) (cb (clQ_ok qrT.1 _ _) (cb (co qrT.2 _ _) (cb (cu _) cD)))) rfl rfl
 have hT : ∀ t ∈ ([⟨.call 11, [op 0], .tup [qp 1, op 3]⟩, ⟨.call 12, [op 0], .tup [rq 2, op 3]⟩] : List cW), t.Valid (mkC [1, 4, 3, 1] [true, true, true, true] [26, 33] 20 [jm (je l), clQ r k, cN r k, jm (ii (jw l).2)] w) :=
  ca (e_read hG hl (pv rfl) hr rfl z rfl (fun _ => (jA rfl).2 rfl)) (ca (e_rread (pv rfl) hr rfl z rfl (fun _ => (jA rfl).2 rfl)) ce)
 refine (cM hC hT 24 Tryz.f24 [op 0] (.tup [qp 1, rq 2]) 60 Tryz.func24 rfl rfl rfl (by kernel_rfl) [je l] ⟨_, _, rfl, (jA rfl).2 rfl, rfl⟩).mono ?_
 rintro e w' ⟨v, rfl, ⟨vs, ⟨v1, _, rfl, g1, v2, _, rfl, g2, rfl⟩, rfl⟩, hb⟩
 exact ⟨v1, v2, rfl, ((qp_is rfl).1 g1).1, ((ji rfl).1 g2).1, hb⟩
section
variable {csz : List Nat} {numc : List Bool} {okT : List Nat} {nt : Nat} {cl : List Cl} {w0 : World} {w : World} {p1 p2 : jQ} {c1 c2 : Nat} {l : List UInt8} {r : Rat} {k1 k2 : Nat}
theorem e_both (hG : Gr w0) (hl : l.length ≤ 100000) (h1 : PV csz numc okT nt cl w0 p1 (je l)) (hr : (jw l).1 = r) (z : cB r k1) (h2 : cl[c1]? = some (clQ r k1)) (h3 : cl[c2]? = some (cN r k1)) : V csz numc okT nt cl w0 (.call 24) [p1] (.tup [qp c1, rq c2]) := by
 refine ⟨enters_of Tryz.func24 (by kernel_rfl) rfl, fun w vs hb hvs => ?_⟩
 obtain ⟨v1, _, rfl, h4, rfl⟩ := hvs
 obtain rfl := h1 _ _ h4
 refine (both_ok l r k1 w (hG.below hb hG.size) hl hr z).mono ?_
 rintro e w' ⟨x, y, rfl, g1, g2, hb'⟩
 exact ⟨_, rfl, ⟨_, ⟨_, _, rfl, (qp_is h2).2 ⟨g1, z⟩, _, _, rfl, (ji h3).2 ⟨g2, z⟩, rfl⟩, rfl⟩, hb'⟩
end
section
variable {la lb : List UInt8} {r s o : Rat} {w : World}
end
end Sym
end Go.Proofs.YtccabfblgjcboaaGreatDoor
