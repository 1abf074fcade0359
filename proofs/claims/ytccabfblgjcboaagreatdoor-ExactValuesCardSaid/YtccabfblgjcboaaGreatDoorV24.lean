/- Package exact: RefSum RefRest RefW RefProd RefX RefDiv RefGcd RefMake RefMul RefAdd RefOps RefQ RefR RefS RefT RefD RefU RefI RefSame RefN RefRead LawReads. -/
import Derived.Test.YtccabfblgjcboaaGreatDoorV3
import Derived.Laws.OwnMore
import Derived.OwnWalk
import Derived.Test.YtccabfblgjcboaaGreatDoorV17
import Derived.Test.YtccabfblgjcboaaGreatDoorV20
import Derived.Test.YtccabfblgjcboaaGreatDoorV23
import Derived.Laws.IdiomStrings
import Derived.Test.YtccabfblgjcboaaGreatDoorV18
import Derived.Laws.Strings3
set_option linter.all false

namespace Go.Proofs.YtccabfblgjcboaaGreatDoor
open Go Go.RowKit Go.Proofs Lim
namespace Sym
end Sym
open Go Go.RowKit Go.Proofs Lim
namespace Sym
end Sym
open Go Go.RowKit Go.Proofs Lim
namespace Sym
section
variable {nt : Nat} {vl : List Value} {w : World} {a : Act} {T : List Ent} {Q : Exit → Act → World → Prop}
end
end Sym
open Go Go.RowKit Go.Proofs Lim
namespace Sym
end Sym
open Go Go.RowKit Go.Proofs Lim
namespace Sym
section
variable {csz : List Nat} {numc : List Bool} {nt : Nat} {vl : List Value} {cl : List Cl} {w0 w : World} {a : Act} {T : List Ent} {Q : Exit → Act → World → Prop}
end
end Sym
open Go Go.RowKit Go.Proofs Lim
namespace Sym
section
variable {csz : List Nat} {numc : List Bool} {okT : List Nat} {nt : Nat} {cl : List Cl} {w0 : World} {p1 p2 : jw} {res : RPat} {ds es : List Nat} {n : Nat}
end
end Sym
open Go Go.RowKit Go.Proofs Lim
namespace Sym
section
variable {csz : List Nat} {numc : List Bool} {okT : List Nat} {nt : Nat} {cl : List Cl} {w0 : World} {p1 p2 : jw} {c1 c2 : Nat} {ds es : List Nat}
end
section
variable {csz : List Nat} {numc : List Bool} {okT : List Nat} {nt : Nat} {cl : List Cl} {w0 : World} {p1 p2 : jw} {res : RPat} {m n : Nat}
end
end Sym
open Go Go.RowKit Go.Proofs Lim
namespace Sym
def RatP (w : World) (v : Value) (neg : Bool) (m k : Nat) : Prop := ∃ a b, v = .agg #[.bool neg, a, b] ∧ Dg w a (digs m) ∧ Dg w b (digs k)
end Sym
open Go Go.RowKit Go.Proofs Lim
namespace Sym
section
variable {csz : List Nat} {numc : List Bool} {okT : List Nat} {nt : Nat} {cl : List Cl} {w0 : World} {p1 p2 p3 : jw} {res : RPat} {c1 c2 c3 m k : Nat} {neg s t b : Bool}
abbrev rp (c1 c2 c3 : Nat) : jw := .agg [.cls c1 1, .cls c2 1, .cls c3 1]
end
end Sym
open Go Go.RowKit Go.Proofs Lim
namespace Sym
section
variable {csz : List Nat} {numc : List Bool} {okT : List Nat} {nt : Nat} {cl : List Cl} {w0 : World} {p1 p2 p3 : jw} {res : RPat} {ds es : List Nat} {s t b : Bool}
end
end Sym
open Go Go.RowKit Go.Proofs Lim
namespace Sym
end Sym
open Go Go.RowKit Go.Proofs Lim
namespace Sym
def RQ (w : World) (v : Value) (r : Rat) : Prop := RatP w v (decide (r.num < 0)) r.num.natAbs r.den
theorem mk_parts (neg : Bool) {m k : Nat} (hk : 0 < k) : (mkRat (sgn neg m) k).num.natAbs = m / Nat.gcd m k ∧ (mkRat (sgn neg m) k).den = k / Nat.gcd m k ∧ decide ((mkRat (sgn neg m) k).num < 0) = (neg && decide (m ≠ 0)) := by
 have hk0 : k ≠ 0 := by omega
 rw [← Rat.normalize_eq_mkRat hk0, Rat.normalize_eq]
 have hg : (sgn neg m).natAbs.gcd k = Nat.gcd m k := by rw [sgn_abs]
 have hgp : 0 < Nat.gcd m k := Nat.gcd_pos_of_pos_right m hk
 obtain ⟨c, hc⟩ := Nat.gcd_dvd_left m k
 have hcd : m / Nat.gcd m k = c := by
  conv => lhs; lhs; rw [hc]
  exact Nat.mul_div_cancel_left c hgp
 have hz : sgn neg m / ((Nat.gcd m k : Nat) : Int) = sgn neg c := by
  have : sgn neg m = ((Nat.gcd m k : Nat) : Int) * sgn neg c := by
   unfold sgn
   split
   · rw [Int.mul_neg, ← Int.natCast_mul, ← hc]
   · rw [← Int.natCast_mul, ← hc]
  rw [this, Int.mul_ediv_cancel_left _ (by omega)]
 have hm0 : m = 0 ↔ c = 0 := by
  constructor
  · intro h
    have : Nat.gcd m k * c = 0 := by rw [← hc]; exact h
    rcases Nat.mul_eq_zero.1 this with h | h
    · omega
    · exact h
  · intro h
    rw [hc, h, Nat.mul_zero]
 simp only [hg, hz, sgn_abs, hcd, sgn_neg]
 refine ⟨trivial, trivial, ?_⟩
 have : decide (m ≠ 0) = !decide (c = 0) := by
  by_cases h : c = 0
  · simp [h, hm0.2 h]
  · have h' : m ≠ 0 := fun e => h (hm0.1 e)
    simp [h, h']
 rw [this]
theorem RatP.rq {w : World} {v : Value} {neg : Bool} {m k : Nat} {r : Rat} (hk : 0 < k) (h : RatP w v (neg && decide (m ≠ 0)) (m / Nat.gcd m k) (k / Nat.gcd m k)) (hr : r = mkRat (sgn neg m) k) : RQ w v r := by
 obtain ⟨h1, h2, h3⟩ := mk_parts neg (m := m) hk
 subst hr
 show RatP w v _ _ _
 rw [h1, h2, h3]
 exact h
end Sym
open Go Go.RowKit Go.Proofs Lim
namespace Sym
def clR (r : Rat) (k : Nat) : Cl := ⟨[], 3, true, fun w f => RQ w (.agg #[f 0, f 1, f 2]) r ∧ cF r k⟩
def rq (c : Nat) : jw := .agg [.cls c 3]
section
variable {csz : List Nat} {numc : List Bool} {okT : List Nat} {nt : Nat} {cl : List Cl} {w0 : World} {w : World} {v : Value} {p1 p2 p3 p4 : jw} {res : RPat} {c d c1 c2 c3 c4 c5 c6 : Nat} {r s t r1 r2 r3 r4 : Rat} {k k1 k2 k3 k4 k5 k6 : Nat}
theorem rq_is (h : cl[c]? = some (clR r k)) : (rq c).is (mkC csz numc okT nt cl w0) w v ↔ RQ w v r ∧ cF r k := by
 constructor
 · rintro ⟨vs, ⟨xs, ys, rfl, ⟨f, hE, rfl⟩, hy⟩, rfl⟩
   rw [show ys = [] from hy]
   simp only [mkC, h] at hE
   exact hE
 · rintro ⟨h1, h2⟩
   obtain ⟨a, b, rfl, g1, g2⟩ := h1
   refine ⟨[.bool (decide (r.num < 0)), a, b], ⟨_, [], (List.append_nil _).symm, ⟨fun j => [Value.bool (decide (r.num < 0)), a, b].getD j undef, ?_, rfl⟩, rfl⟩, rfl⟩
   simp only [mkC, h]
   exact ⟨⟨a, b, rfl, g1, g2⟩, h2⟩
def PR (csz : List Nat) (numc : List Bool) (okT : List Nat) (nt : Nat) (cl : List Cl) (w0 : World) (p : jw) (r : Rat) (k : Nat) : Prop := ∀ w v, p.is (mkC csz numc okT nt cl w0) w v → RQ w v r ∧ cF r k
theorem pr (h : cl[c]? = some (clR r k)) : PR csz numc okT nt cl w0 (rq c) r k := fun _ _ h1 => (rq_is h).1 h1
end
end Sym
open Go Go.RowKit Go.Proofs Lim
namespace Sym
section
variable {csz : List Nat} {numc : List Bool} {okT : List Nat} {nt : Nat} {cl : List Cl} {w0 : World} {w : World} {v : Value} {p1 p2 p3 p4 : jw} {res : RPat} {c d c1 c2 c3 c4 c5 c6 : Nat} {r s t r1 r2 r3 r4 : Rat} {k k1 k2 k3 k4 k5 k6 : Nat}
end
section
variable {csz : List Nat} {numc : List Bool} {okT : List Nat} {nt : Nat} {cl : List Cl} {w0 : World} {w : World} {v : Value} {p1 p2 p3 p4 : jw} {res : RPat} {c d c1 c2 c3 c4 c5 c6 : Nat} {r s t r1 r2 r3 r4 : Rat} {k k1 k2 k3 k4 k5 k6 : Nat}
end
def minQ (r s : Rat) : Rat := if r ≤ s then r else s
def maxQ (r s : Rat) : Rat := if s ≤ r then r else s
section
variable {csz : List Nat} {numc : List Bool} {okT : List Nat} {nt : Nat} {cl : List Cl} {w0 : World} {w : World} {v : Value} {p1 p2 p3 p4 : jw} {res : RPat} {c d c1 c2 c3 c4 c5 c6 : Nat} {r s t r1 r2 r3 r4 : Rat} {k k1 k2 k3 k4 k5 k6 : Nat}
end
end Sym
open Go Go.RowKit Go.Proofs Lim
namespace Sym
def rl (s : Bool) (c d : Nat) : jw := .agg [.lit (.bool s), .cls c 1, .cls d 1]
section
variable {csz : List Nat} {numc : List Bool} {okT : List Nat} {nt : Nat} {cl : List Cl} {w0 : World} {w : World} {v z : Value} {p1 p2 p3 p4 : jw} {res : RPat} {c d c1 c2 c3 c4 c5 c6 : Nat} {r s t r1 r2 r3 r4 : Rat} {k k1 k2 k3 k4 k5 k6 : Nat}
end
section
variable {csz : List Nat} {numc : List Bool} {okT : List Nat} {nt : Nat} {cl : List Cl} {w0 : World} {w : World} {v z : Value} {p1 p2 p3 p4 : jw} {res : RPat} {c d c1 c2 c3 c4 c5 c6 : Nat} {r s t r1 r2 r3 r4 : Rat} {k k1 k2 k3 k4 k5 k6 : Nat}
end
section
variable {csz : List Nat} {numc : List Bool} {okT : List Nat} {nt : Nat} {cl : List Cl} {w0 : World} {w : World} {v z : Value} {p1 p2 p3 p4 : jw} {res : RPat} {c d c1 c2 c3 c4 c5 c6 : Nat} {r s t r1 r2 r3 r4 : Rat} {k k1 k2 k3 k4 k5 k6 : Nat}
end
end Sym
open Go Go.RowKit Go.Proofs Lim
namespace Sym
section
variable {csz : List Nat} {numc : List Bool} {okT : List Nat} {nt : Nat} {cl : List Cl} {w0 : World} {w : World} {v z : Value} {p1 p2 p3 p4 : jw} {res : RPat} {c d c1 c2 c3 c4 c5 c6 : Nat} {a b l : List UInt8}
theorem und_str : Tryz.prog.underlying 9 = some .string := by kernel_rfl
end
end Sym
open Go Go.RowKit Go.Proofs Lim
namespace Sym
section
variable {csz : List Nat} {numc : List Bool} {okT : List Nat} {nt : Nat} {cl : List Cl} {w0 : World} {w : World} {v z : Value} {p1 p2 p3 p4 : jw} {res : RPat} {c d c1 c2 c3 c4 c5 c6 : Nat} {a b l : List UInt8}
end
theorem clVs_ok {okT : List Nat} {B : Nat} (a : List UInt8) : (clV (str a)).Ok okT B := clV_ok rfl
end Sym
open Go Go.RowKit Go.Proofs Lim
namespace Sym
section
variable {csz : List Nat} {numc : List Bool} {okT : List Nat} {cl : List Cl} {w0 : World} {w : World} {p4 p5 : jw} {s : Bool} {m k : Nat} {n i : Value} {a : Act} {r : Rat} {c d : Nat}
end
end Sym
open Go Go.RowKit Go.Proofs Lim
namespace Sym
section
variable {csz : List Nat} {numc : List Bool} {okT : List Nat} {nt : Nat} {cl : List Cl} {w0 : World} {w : World} {v z : Value} {p1 p2 p3 p4 : jw} {res : RPat} {c d c1 c2 c3 c4 c5 c6 : Nat} {a b l : List UInt8} {r s : Rat} {k k1 k2 : Nat}
end
section
variable {csz : List Nat} {numc : List Bool} {okT : List Nat} {nt : Nat} {cl : List Cl} {w0 : World} {w : World} {v z : Value} {p1 p2 p3 p4 : jw} {res : RPat} {c d c1 c2 c3 c4 c5 c6 : Nat} {a b l : List UInt8} {r s : Rat} {k k1 k2 : Nat}
end
end Sym
open Go Go.RowKit Go.Proofs Lim
namespace Sym
section
variable {csz : List Nat} {numc : List Bool} {okT : List Nat} {nt : Nat} {cl : List Cl} {w0 : World} {w : World} {v z : Value} {p1 p2 p3 p4 : jw} {res : RPat} {c d c1 c2 c3 c4 c5 c6 : Nat} {a b l : List UInt8}
theorem e_slen {n : Int} (hn : ((l.length : Nat) : Int) = n) (h1 : PV csz numc okT nt cl w0 p1 (str l)) (h3 : RV csz numc okT nt cl w0 res (ii n)) : V csz numc okT nt cl w0 (.blt .len [9] 3) [p1] res := by
 intro w ρ oo xs ho hb hvs
 obtain ⟨c, hop, hc, hat, hty, rfl⟩ := hd_blt ho
 obtain ⟨v1, _, e1, h4, e2⟩ := hvs
 obtain rfl := h1 _ _ h4
 subst e2
 refine ⟨_, w, ?_, h3 w, Below.refl _ _⟩
 have he : c.args.map ρ = #[str l] := by
  apply Array.ext'
  simpa using e1
 have hr := run_len_string (P := Tryz.prog) w 9 3 ⟨l.toArray⟩ und_str
 have hs : goInt (⟨l.toArray⟩ : ByteArray).size = ii n := by
  show Value.int .i64 ((l.length : Nat) : Int) = _
  rw [hn]
 rw [hs] at hr
 show (execOp ρ oo).run Tryz.prog w = _
 simp only [execOp, hop, resolve, hc, he, Sem.run_bind, Sem.run_pure, Result.andThen_ok, invoke, builtin, hat, hty]
 simp [Sem.run_bind, hr, Result.andThen]
end
end Sym
open Go Go.RowKit Go.Proofs Lim
namespace Sym
section
variable {csz : List Nat} {numc : List Bool} {okT : List Nat} {nt : Nat} {cl : List Cl} {w0 : World} {w : World} {v z : Value} {p1 p2 p3 p4 : jw} {res : RPat} {c d c1 c2 c3 c4 c5 c6 : Nat} {a b l : List UInt8} {x : Rat} {k : Nat}
end
section
variable {csz : List Nat} {numc : List Bool} {okT : List Nat} {cl : List Cl} {w0 : World} {w : World} {p0 p4 p5 p6 : jw} {neg : Bool} {l T : List UInt8} {i : Nat} {a : Act}
end
theorem t_app {C : Ctx} {l1 l2 : List Ent} (h1 : ∀ t ∈ l1, t.Valid C) (h2 : ∀ t ∈ l2, t.Valid C) : ∀ t ∈ l1 ++ l2, t.Valid C := fun t ht => (List.mem_append.1 ht).elim (h1 t) (h2 t)
section
variable {l T : List UInt8} {i : Nat} {NA NB : List Nat} {x : Rat} {w : World}
end
end Sym
open Go Go.RowKit Go.Proofs Lim
namespace Sym
section
variable {csz : List Nat} {numc : List Bool} {okT : List Nat} {nt : Nat} {cl : List Cl} {w0 : World} {w : World} {v z : Value} {p1 p2 p3 p4 : jw} {res : RPat} {c d c1 c2 c3 c4 c5 c6 : Nat} {a b l : List UInt8} {r s : Rat} {k k1 k2 k3 : Nat} {i j : Int}
end
end Sym
end Go.Proofs.YtccabfblgjcboaaGreatDoor
