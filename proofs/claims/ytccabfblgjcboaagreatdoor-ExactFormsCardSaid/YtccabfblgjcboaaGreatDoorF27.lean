/- Package exact: RefR RefS RefT RefD RefU RefI RefSame. -/
import Derived.Test.YtccabfblgjcboaaGreatDoorF26
import Derived.Test.YtccabfblgjcboaaGreatDoorF21
import Derived.Test.YtccabfblgjcboaaGreatDoorF23
import Derived.Laws.IdiomStrings
import Derived.Test.YtccabfblgjcboaaGreatDoorF19
set_option linter.all false

namespace Go.Proofs.YtccabfblgjcboaaGreatDoor
open Go Go.RowKit Go.Proofs Lim
namespace Sym
theorem radd_q (x y : Value) (r s : Rat) (k : Nat) (w : World) (hx : RQ w x r) (hy : RQ w y s) (z1 : cB r k) (z2 : cB s k) (hk : k ≤ 100000) : Calls Tryz.prog 26 #[x, y] w (RNew w (r + s)) := by
 have l1 := jl z1.1
 have l2 := jl z1.2
 have l3 := jl z2.1
 have l4 := jl z2.2
 have l5 := jl (pow_mul_lt z1.1 z2.2)
 have l6 := jl (pow_mul_lt z1.2 z2.2)
 have l7 := jl (pow_mul_lt z2.1 z1.2)
 have l8 := jl (pow_add_lt (pow_mul_lt z1.1 z2.2) (pow_mul_lt z2.1 z1.2))
 have hd := Nat.mul_pos r.den_pos s.den_pos
 refine (add_ok _ _ x y _ _ _ _ w hx hy r.den_pos s.den_pos (by omega) (by omega) (by omega) (by omega) (by omega) (by omega) (by omega) (by omega) (S := (addS (decide (r.num < 0)) (decide (s.num < 0)) (r.num.natAbs * s.den) (s.num.natAbs * r.den)).2) (sg := (addS (decide (r.num < 0)) (decide (s.num < 0)) (r.num.natAbs * s.den) (s.num.natAbs * r.den)).1) rfl).mono ?_
 rintro e w' ⟨v, rfl, hv, hb⟩
 refine ⟨v, rfl, RatP.rq hd hv ?_, hb⟩
 have key : ∀ (a b : Bool) (x y : Nat), sgn (addS a b x y).1 (addS a b x y).2 = sgn a x + sgn b y := by
  intro a b x y
  unfold addS sgn
  cases a <;> cases b <;> simp <;> (try split) <;> (try simp) <;> omega
 have sm : ∀ (a : Bool) (x y : Nat), sgn a (x * y) = sgn a x * (y : Int) := by
  intro a x y
  unfold sgn
  split <;> simp [Int.natCast_mul, Int.neg_mul]
 rw [key, sm, sm, sgn_self, sgn_self, Rat.add_def']
theorem rdiv_q (x y : Value) (r s : Rat) (k : Nat) (w : World) (hx : RQ w x r) (hy : RQ w y s) (h0 : s.num ≠ 0) (z1 : cB r k) (z2 : cB s k) (hk : k ≤ 100000) : Calls Tryz.prog 36 #[x, y] w (RNew w (r / s)) := by
 have l1 := jl z1.1
 have l2 := jl z1.2
 have l3 := jl z2.1
 have l4 := jl z2.2
 have l5 := jl (pow_mul_lt z1.1 z2.2)
 have l6 := jl (pow_mul_lt z1.2 z2.1)
 have hc : 0 < s.num.natAbs := by omega
 refine (div_ok _ _ x y _ _ _ _ w hx hy r.den_pos hc (by omega) (by omega) (by omega) (by omega) (by omega) (by omega)).mono ?_
 rintro e w' ⟨v, rfl, hv, hb⟩
 exact ⟨v, rfl, RatP.rq (Nat.mul_pos r.den_pos hc) hv (div_mk r s h0), hb⟩
theorem rneg_q (x : Value) (r : Rat) (w : World) (hx : RQ w x r) : Calls Tryz.prog 38 #[x] w (RNew w (-r)) := by
 refine (neg_ok _ x _ _ w hx).mono ?_
 rintro e w' ⟨v, rfl, hv, hb⟩
 refine ⟨v, rfl, ?_, hb⟩
 show RatP w' v _ _ _
 rw [Rat.neg_num, Rat.neg_den, Int.natAbs_neg]
 have : decide (-r.num < 0) = (!decide (r.num < 0) && decide (r.num.natAbs ≠ 0)) := by
  by_cases h1 : r.num < 0
  · simp [h1]; omega
  · by_cases h2 : r.num = 0
    · simp [h2]
    · have : 0 < r.num := by omega
      simp [h1, h2, this]
 rw [this]
 exact hv
def cN (r : Rat) (k : Nat) : Cl := ⟨[], 3, true, fun w f => RQ w (.agg #[f 0, f 1, f 2]) r ∧ cB r k⟩
theorem RatP.cells {w : World} {f : Nat → Value} {s : Bool} {m k : Nat} (h : RatP w (.agg #[f 0, f 1, f 2]) s m k) : f 0 = .bool s ∧ Dg w (f 1) (digs m) ∧ Dg w (f 2) (digs k) := by
 obtain ⟨a, b, e, h1, h2⟩ := h
 injection e with e
 have e0 : f 0 = .bool s := by have := congrArg (fun x => x[0]?) e; simpa using this
 have e1 : f 1 = a := by have := congrArg (fun x => x[1]?) e; simpa using this
 have e2 : f 2 = b := by have := congrArg (fun x => x[2]?) e; simpa using this
 exact ⟨e0, e1 ▸ h1, e2 ▸ h2⟩
theorem co {okT : List Nat} {B : Nat} (ht : ∀ t ∈ okT, t ≠ 3) (r : Rat) (k : Nat) : (cN r k).Ok okT B := by
 refine ⟨fun w w' f hb h => ⟨h.1.below hb (Nat.le_refl _), h.2⟩, fun w w' R f cs t _ _ ho hm _ _ hb h => ⟨?_, h.2⟩, ?_, ?_⟩
 · obtain ⟨e0, e1, e2⟩ := RatP.cells h.1
   exact ⟨f 1, f 2, by rw [e0], Dg.only ho (ht t hm) e1 hb, Dg.only ho (ht t hm) e2 hb⟩
 · intro w f _ h
   obtain ⟨e0, _, _⟩ := RatP.cells h.1
   rw [e0]; rfl
 · intro w f j h hj
   obtain ⟨e0, e1, e2⟩ := RatP.cells h.1
   have hj : j < 3 := hj
   match j, hj with
   | 0, _ => rw [e0]; rfl
   | 1, _ => exact e1.one
   | 2, _ => exact e2.one
def rq (c : Nat) : jQ := .agg [.cls c 3]
def fitr (n k : Nat) : Bool := Nat.ble n k && Nat.ble k 100000
theorem jr {n k : Nat} (h : fitr n k = true) : n ≤ k ∧ k ≤ 100000 := by
 simp only [fitr, Bool.and_eq_true] at h
 exact ⟨Nat.le_of_ble_eq_true h.1, Nat.le_of_ble_eq_true h.2⟩
section
variable {csz : List Nat} {numc : List Bool} {okT : List Nat} {nt : Nat} {cl : List Cl} {w0 : World} {w : World} {v : Value} {p1 p2 p3 p4 : jQ} {res : RPat} {c d c1 c2 c3 c4 c5 c6 : Nat} {r s t r1 r2 r3 r4 : Rat} {k k1 k2 k3 k4 k5 k6 : Nat}
theorem ji (h : cl[c]? = some (cN r k)) : (rq c).is (mkC csz numc okT nt cl w0) w v ↔ RQ w v r ∧ cB r k := by
 constructor
 · rintro ⟨vs, ⟨xs, ys, rfl, ⟨f, hE, rfl⟩, hy⟩, rfl⟩
   rw [show ys = [] from hy]
   simp only [mkC, h] at hE
   exact hE
 · rintro ⟨h1, h2⟩
   obtain ⟨a, b, rfl, g1, g2⟩ := h1
   refine ⟨[.bool (decide (r.num < 0)), a, b], ⟨_, [], (List.append_nil _).symm, ⟨fun j => [Value.bool (decide (r.num < 0)), a, b].getD j undef, ?_, rfl⟩, rfl⟩, rfl⟩
   simp only [mkC, h]
   exact ⟨⟨a, b, rfl, g1, g2⟩, h2⟩
def PR (csz : List Nat) (numc : List Bool) (okT : List Nat) (nt : Nat) (cl : List Cl) (w0 : World) (p : jQ) (r : Rat) (k : Nat) : Prop := ∀ w v, p.is (mkC csz numc okT nt cl w0) w v → RQ w v r ∧ cB r k
theorem pr (h : cl[c]? = some (cN r k)) : PR csz numc okT nt cl w0 (rq c) r k := fun _ _ h1 => (ji h).1 h1
theorem ent_rr {f : Nat} (hE : Enters Tryz.prog f) (h1 : PR csz numc okT nt cl w0 p1 r k1) (h2 : cl[c2]? = some (cN t k2)) (hz : cB r k1 → cB t k2)
 (hc : ∀ W v, RQ W v r → cB r k1 → Calls Tryz.prog f #[v] W (RNew W t)) : V csz numc okT nt cl w0 (.call f) [p1] (.val (rq c2)) := by
 refine ⟨hE, fun w vs hb hvs => ?_⟩
 obtain ⟨v1, _, rfl, h4, rfl⟩ := hvs
 have h4 := h1 _ _ h4
 refine (hc w v1 h4.1 h4.2).mono ?_
 rintro e w' ⟨v, rfl, hv, hb'⟩
 exact ⟨v, rfl, (ji h2).2 ⟨hv, hz h4.2⟩, hb'⟩
theorem ent_rrr {f : Nat} (hE : Enters Tryz.prog f) (h1 : PR csz numc okT nt cl w0 p1 r k1) (h2 : PR csz numc okT nt cl w0 p2 s k2) (h3 : cl[c3]? = some (cN t k3)) (hz : cB r k1 → cB s k2 → cB t k3)
 (hc : ∀ W v1 v2, RQ W v1 r → cB r k1 → RQ W v2 s → cB s k2 → Calls Tryz.prog f #[v1, v2] W (RNew W t)) : V csz numc okT nt cl w0 (.call f) [p1, p2] (.val (rq c3)) := by
 refine ⟨hE, fun w vs hb hvs => ?_⟩
 obtain ⟨v1, _, rfl, h4, v2, _, rfl, h5, rfl⟩ := hvs
 have h4 := h1 _ _ h4
 have h5 := h2 _ _ h5
 refine (hc w v1 v2 h4.1 h4.2 h5.1 h5.2).mono ?_
 rintro e w' ⟨v, rfl, hv, hb'⟩
 exact ⟨v, rfl, (ji h3).2 ⟨hv, hz h4.2 h5.2⟩, hb'⟩
theorem ent_rv {f : Nat} {x : Value} (hE : Enters Tryz.prog f) (h1 : PR csz numc okT nt cl w0 p1 r k1)
 (hc : ∀ W v, RQ W v r → cB r k1 → Calls Tryz.prog f #[v] W (Val W x)) : V csz numc okT nt cl w0 (.call f) [p1] (.val (vp x)) := by
 refine ⟨hE, fun w vs hb hvs => ?_⟩
 obtain ⟨v1, _, rfl, h4, rfl⟩ := hvs
 have h4 := h1 _ _ h4
 refine (hc w v1 h4.1 h4.2).mono ?_
 rintro e w' ⟨rfl, hb'⟩
 exact ⟨_, rfl, vp_r _ _ _, hb'⟩
theorem ent_rrv {f : Nat} {x : Value} (hE : Enters Tryz.prog f) (h1 : PR csz numc okT nt cl w0 p1 r k1) (h2 : PR csz numc okT nt cl w0 p2 s k2)
 (hc : ∀ W v1 v2, RQ W v1 r → cB r k1 → RQ W v2 s → cB s k2 → Calls Tryz.prog f #[v1, v2] W (Val W x)) : V csz numc okT nt cl w0 (.call f) [p1, p2] (.val (vp x)) := by
 refine ⟨hE, fun w vs hb hvs => ?_⟩
 obtain ⟨v1, _, rfl, h4, v2, _, rfl, h5, rfl⟩ := hvs
 have h4 := h1 _ _ h4
 have h5 := h2 _ _ h5
 refine (hc w v1 v2 h4.1 h4.2 h5.1 h5.2).mono ?_
 rintro e w' ⟨rfl, hb'⟩
 exact ⟨_, rfl, vp_r _ _ _, hb'⟩
theorem e_radd (h1 : PR csz numc okT nt cl w0 p1 r k1) (h2 : PR csz numc okT nt cl w0 p2 s k2) (h3 : cl[c3]? = some (cN (r + s) k3)) (hk : fitr (k1 + k2 + 1) k3 = true) : V csz numc okT nt cl w0 (.call 26) [p1, p2] (.val (rq c3)) := by
 have hk := jr hk
 exact ent_rrr (enters_of Tryz.func26 (by kernel_rfl) rfl) h1 h2 h3 (fun z1 z2 => (z1.add z2).le (by omega)) (fun W v1 v2 q1 z1 q2 z2 => radd_q v1 v2 r s k3 W q1 q2 (z1.le (by omega)) (z2.le (by omega)) (by omega))
theorem e_rmul (h1 : PR csz numc okT nt cl w0 p1 r k1) (h2 : PR csz numc okT nt cl w0 p2 s k2) (h3 : cl[c3]? = some (cN (r * s) k3)) (hk : fitr (k1 + k2) k3 = true) : V csz numc okT nt cl w0 (.call 30) [p1, p2] (.val (rq c3)) := by
 have hk := jr hk
 exact ent_rrr (enters_of Tryz.func30 (by kernel_rfl) rfl) h1 h2 h3 (fun z1 z2 => (z1.mul z2).le (by omega)) (fun W v1 v2 q1 z1 q2 z2 => rmul_q v1 v2 r s k3 W q1 q2 (z1.le (by omega)) (z2.le (by omega)) (by omega))
theorem e_rdiv (h0 : s.num ≠ 0) (h1 : PR csz numc okT nt cl w0 p1 r k1) (h2 : PR csz numc okT nt cl w0 p2 s k2) (h3 : cl[c3]? = some (cN (r / s) k3)) (hk : fitr (k1 + k2) k3 = true) : V csz numc okT nt cl w0 (.call 36) [p1, p2] (.val (rq c3)) := by
 have hk := jr hk
 exact ent_rrr (enters_of Tryz.func36 (by kernel_rfl) rfl) h1 h2 h3 (fun z1 z2 => (z1.div z2 h0).le (by omega)) (fun W v1 v2 q1 z1 q2 z2 => rdiv_q v1 v2 r s k3 W q1 q2 h0 (z1.le (by omega)) (z2.le (by omega)) (by omega))
theorem e_rneg (h1 : PR csz numc okT nt cl w0 p1 r k1) (h2 : cl[c2]? = some (cN (-r) k2)) (hk : fitr k1 k2 = true) : V csz numc okT nt cl w0 (.call 38) [p1] (.val (rq c2)) :=
 ent_rr (enters_of Tryz.func38 (by kernel_rfl) rfl) h1 h2 (fun z => z.neg.le (jr hk).1) (fun W v q _ => rneg_q v r W q)
theorem hd_bs {o : Oper} {t n : Nat} {xs : List Operand} (h : opHd o = some (.bs t n, xs)) : ∃ parts, o.op = .buildSlice t n parts ∧ parts.toList.map (·.1) = List.range parts.toList.length ∧ xs = parts.toList.map (·.2) := by
  unfold opHd at h
  split at h <;> first
    | (rename_i h0
       split at h
       · rename_i hd
         simp only [Option.some.injEq, Prod.mk.injEq, Hd.bs.injEq] at h
         obtain ⟨⟨rfl, rfl⟩, rfl⟩ := h
         exact ⟨_, h0, of_decide_eq_true hd, rfl⟩
       · simp at h)
    | (split at h <;> simp at h)
    | simp at h
theorem e_bs1 {x : Nat} (h1 : PV csz numc okT nt cl w0 p1 (ii (x : Int))) (h3 : RD csz numc okT nt cl w0 res [x]) : V csz numc okT nt cl w0 (.bs 31 1) [p1] res := by
 intro w ρ oo xs ho hb hvs
 obtain ⟨parts, hop, hidx, rfl⟩ := hd_bs ho
 obtain ⟨v1, _, e1, h4, e2⟩ := hvs
 obtain rfl := h1 _ _ h4
 subst e2
 obtain ⟨y, hp, hy⟩ : ∃ y, parts.toList = [(0, y)] ∧ ρ y = ii (x : Int) := by
  cases hl : parts.toList with
  | nil => rw [hl] at e1; simp at e1
  | cons a l =>
   cases l with
   | nil =>
    rw [hl] at e1 hidx
    obtain ⟨i, y⟩ := a
    simp [List.range_succ] at e1 hidx
    exact ⟨y, by rw [hidx], e1⟩
   | cons b l => rw [hl] at e1; simp at e1
 have hu : Tryz.prog.underlying 31 = some (.slice 3) := by kernel_rfl
 obtain ⟨inf, hinf, hz, hs, _⟩ := info_int
 have hf : Instr.fill (fun j => some (j * inf.size, inf.size)) ((Array.range (1 * inf.size)).map ((ii 0).cells[· % (ii 0).cells.size]!)) (parts.map fun (j, x) => (j, ρ x)).toList = some #[ii (x : Int)] := by
  have := Great.fill_whole (s := 1) (by decide) [ii (x : Int)] ((Array.range (1 * 1)).map ((ii 0).cells[· % (ii 0).cells.size]!)) (fun v hv => by
   have : v = ii (x : Int) := by simpa using hv
   subst this
   rfl) (by simp)
  rw [Array.toList_map, hp, hs]
  simp only [List.map_cons, List.map_nil, hy]
  exact this
 have hr := run_buildSlice (P := Tryz.prog) w 31 3 1 (parts.map fun (j, x) => (j, ρ x)) _ inf (ii 0) hu hinf hz (by rw [hs]; omega) (by rw [hs]; omega) hf
 refine ⟨.slice (some ⟨w.heap.size, 0, none⟩) 1 1, w.alloc (.cells #[ii (x : Int)] 3), ?_, h3 _ _ ⟨some ⟨w.heap.size, 0, none⟩, 1, rfl, Nat.le_refl _, by decide, fun _ => ⟨_, 0, rfl, ⟨_, _, heap_alloc_new w _⟩, fun i hi => ?_⟩⟩, (Below.refl _ _).alloc (Nat.le_refl _) _⟩
 · show (execOp ρ oo).run Tryz.prog w = _
   simp only [execOp, hop, Sem.run_bind, hr, Result.andThen_ok]
   rfl
 · have hi : i < 1 := hi
   obtain rfl : i = 0 := by omega
   simp only [World.cell?, heap_alloc_new]
   rfl
theorem e_min {ats : List Nat} {t : Nat} {x y : Int} (h1 : PV csz numc okT nt cl w0 p1 (ii x)) (h2 : PV csz numc okT nt cl w0 p2 (ii y)) (h3 : RV csz numc okT nt cl w0 res (ii (if y < x then y else x))) : V csz numc okT nt cl w0 (.blt .min ats t) [p1, p2] res := by
 intro w ρ oo xs ho hb hvs
 obtain ⟨c, hop, hc, hat, hty, rfl⟩ := hd_blt ho
 obtain ⟨v1, _, e1, h4, v2, _, e2, h5, e3⟩ := hvs
 obtain rfl := h1 _ _ h4
 obtain rfl := h2 _ _ h5
 subst e2
 subst e3
 refine ⟨_, w, ?_, h3 w, Below.refl _ _⟩
 have he : c.args.map ρ = #[ii x, ii y] := by
  apply Array.ext'
  simpa using e1
 show (execOp ρ oo).run Tryz.prog w = _
 simp only [execOp, hop, resolve, hc, he, Sem.run_bind, Sem.run_pure, Result.andThen_ok, invoke, builtin, run_min_int2]
end
end Sym
open Go Go.RowKit Go.Proofs Lim
namespace Sym
theorem fitr_mk {n k : Nat} (h1 : n ≤ k) (h2 : k ≤ 100000) : fitr n k = true := by
 simp only [fitr, Bool.and_eq_true]
 exact ⟨Nat.ble_eq_true_of_le h1, Nat.ble_eq_true_of_le h2⟩
theorem rsub_q (x y : Value) (r s : Rat) (k : Nat) (w : World) (hx : RQ w x r) (hy : RQ w y s) (z1 : cB r k) (z2 : cB s k) (hk : k + k + 1 ≤ 100000) : Calls Tryz.prog 28 #[x, y] w (RNew w (r - s)) := by
 have hC : (mkC [3, 3, 3, 3] [true, true, true, true] [33] 9 [cN r k, cN s k, cN (-s) k, cN (r + -s) (k + k + 1)] w).Ok := cL (cb (co jx _ _) (cb (co jx _ _) (cb (co jx _ _) (cb (co jx _ _) cD)))) rfl rfl
 have hT : ∀ t ∈ ([⟨.call 38, [rq 1], .val (rq 2)⟩, ⟨.call 26, [rq 0, rq 2], .val (rq 3)⟩] : List cW), t.Valid (mkC [3, 3, 3, 3] [true, true, true, true] [33] 9 [cN r k, cN s k, cN (-s) k, cN (r + -s) (k + k + 1)] w) :=
  ca (e_rneg (pr rfl) rfl (fitr_mk (Nat.le_refl _) (by omega))) (ca (e_radd (pr rfl) (pr rfl) rfl (fitr_mk (Nat.le_refl _) hk)) ce)
 refine (cM hC hT 28 Tryz.f28 [rq 0, rq 1] (.val (rq 3)) 60 Tryz.func28 rfl rfl rfl (by kernel_rfl) [x, y] ⟨_, _, rfl, (ji rfl).2 ⟨hx, z1⟩, _, _, rfl, (ji rfl).2 ⟨hy, z2⟩, rfl⟩).mono ?_
 rintro e w' ⟨v, rfl, hv, hb⟩
 refine ⟨v, rfl, ?_, hb⟩
 rw [Rat.sub_eq_add_neg]
 exact ((ji rfl).1 hv).1
section
variable {csz : List Nat} {numc : List Bool} {okT : List Nat} {nt : Nat} {cl : List Cl} {w0 : World} {w : World} {v : Value} {p1 p2 p3 p4 : jQ} {res : RPat} {c d c1 c2 c3 c4 c5 c6 : Nat} {r s t r1 r2 r3 r4 : Rat} {k k1 k2 k3 k4 k5 k6 : Nat}
theorem e_rsub (h1 : PR csz numc okT nt cl w0 p1 r k1) (h2 : PR csz numc okT nt cl w0 p2 s k2) (h3 : cl[c3]? = some (cN (r - s) k3)) (hk : fitr (k1 + k2 + 1) k3 = true) (hk' : fitr k3 40000 = true) : V csz numc okT nt cl w0 (.call 28) [p1, p2] (.val (rq c3)) := by
 have hk := jr hk
 have hk' := jr hk'
 exact ent_rrr (enters_of Tryz.func28 (by kernel_rfl) rfl) h1 h2 h3 (fun z1 z2 => (z1.sub z2).le (by omega)) (fun W v1 v2 q1 z1 q2 z2 => rsub_q v1 v2 r s k3 W q1 q2 (z1.le (by omega)) (z2.le (by omega)) (by omega))
end
def t_sign : List cW := [⟨.blt .len [31] 3, [op 0], .val (op 2)⟩, ⟨.blt .min [3, 3] 3, [op 2, vp (ii 1)], .val (op 3)⟩]
abbrev cl_sign (a b : Nat) : List Cl := [ko (digs a), ko (digs b), jm (ii ((digs a).length : Int)), jm (ii (if (1 : Int) < ((digs a).length : Int) then 1 else ((digs a).length : Int)))]
noncomputable abbrev C_sign (a b : Nat) (w : World) : Ctx := mkC [1, 1, 1, 1] [false, false, true, true] [33] 9 (cl_sign a b) w
theorem rl_isS {a b : Nat} {w0 w : World} {v : Value} {s : Bool} : (jQ.agg [.lit (.bool s), .cls 0 1, .cls 1 1]).is (C_sign a b w0) w v ↔ RatP w v s a b := by
 constructor
 · rintro ⟨vs, ⟨xs, ys, rfl, rfl, xs2, ys2, rfl, ⟨f, hE, rfl⟩, xs3, ys3, rfl, ⟨g, hE', rfl⟩, h5⟩, rfl⟩
   rw [show ys3 = [] from h5]
   exact ⟨f 0, g 0, by simp [List.range_succ], hE, hE'⟩
 · rintro ⟨x, y, rfl, ha, hb⟩
   exact ⟨[.bool s, x, y], ⟨[.bool s], [x, y], rfl, rfl, [x], [y], rfl, ⟨fun _ => x, ha, rfl⟩, [y], [], rfl, ⟨fun _ => y, hb, rfl⟩, rfl⟩, rfl⟩
theorem rsign_q (x : Value) (r : Rat) (w : World) (hx : RQ w x r) : Calls Tryz.prog 33 #[x] w (Go.Proofs.YtccabfblgjcboaaGreatDoor.Val w (.int .i64 (sign r))) := by
 have hC : (C_sign r.num.natAbs r.den w).Ok := cL (cb (cF jx _) (cb (cF jx _) (cb (cu _) (cb (cu _) cD)))) rfl rfl
 have hT : ∀ t ∈ t_sign, t.Valid (C_sign r.num.natAbs r.den w) := ca (e_len cU (pd rfl) (rv rfl)) (ca (e_min (pv rfl) jR (rv rfl)) ce)
 have hx : RatP w x (decide (r.num < 0)) r.num.natAbs r.den := hx
 by_cases h : r.num < 0
 · rw [decide_eq_true h] at hx
   refine (cM hC hT 33 Tryz.f33 [.agg [.lit (.bool true), .cls 0 1, .cls 1 1]] (.val (vp (ii (-1)))) 60 Tryz.func33 rfl rfl rfl (by kernel_rfl) [x] ⟨_, _, rfl, rl_isS.2 hx, rfl⟩).mono ?_
   rintro e w' ⟨v, rfl, hv, hb⟩
   rw [val_of hv]
   have : sign r = -1 := by unfold sign; rw [if_neg (by omega), if_pos h]
   exact ⟨by rw [this], hb⟩
 · rw [decide_eq_false h] at hx
   refine (cM hC hT 33 Tryz.f33 [.agg [.lit (.bool false), .cls 0 1, .cls 1 1]] (.val (op 3)) 60 Tryz.func33 rfl rfl rfl (by kernel_rfl) [x] ⟨_, _, rfl, rl_isS.2 hx, rfl⟩).mono ?_
   rintro e w' ⟨v, rfl, hv, hb⟩
   rw [(jA rfl).1 hv]
   refine ⟨?_, hb⟩
   congr 2
   have := digs_pos_len (n := r.num.natAbs)
   unfold sign
   rw [if_neg h]
   by_cases h0 : r.num = 0
   · rw [if_pos h0, h0]
     have : (digs (Int.natAbs 0)).length = 0 := by rw [show Int.natAbs 0 = 0 from rfl, digs_zero]; rfl
     rw [this]; rfl
   · rw [if_neg h0]
     have : 0 < (digs r.num.natAbs).length := this.2 (by omega)
     split <;> omega
theorem sign_sub (r s : Rat) : sign (r - s) = jN r s := by
 have h1 : (r - s).num = 0 ↔ r - s = 0 := Rat.num_eq_zero
 have h2 : 0 ≤ (r - s).num ↔ 0 ≤ r - s := Rat.num_nonneg
 unfold sign jN
 by_cases a : r < s
 · have e1 : ¬ r - s = 0 := by grind
   have e2 : ¬ 0 ≤ r - s := by grind
   have e3 : ¬ (r - s).num = 0 := fun h => e1 (h1.1 h)
   have e4 : (r - s).num < 0 := Int.not_le.1 (fun h => e2 (h2.1 h))
   rw [if_neg e3, if_pos e4, if_pos a]
 · rw [if_neg a]
   have e2 : 0 ≤ r - s := by grind
   have e4 : ¬ (r - s).num < 0 := Int.not_lt.2 (h2.2 e2)
   by_cases b : s < r
   · have e1 : ¬ r - s = 0 := by grind
     rw [if_neg (fun h => e1 (h1.1 h)), if_neg e4, if_pos b]
   · have e1 : r - s = 0 := by grind
     rw [if_pos (h1.2 e1), if_neg b]
theorem rcmp_q (x y : Value) (r s : Rat) (k : Nat) (w : World) (hx : RQ w x r) (hy : RQ w y s) (z1 : cB r k) (z2 : cB s k) (hk : k ≤ 10000) : Calls Tryz.prog 32 #[x, y] w (Go.Proofs.YtccabfblgjcboaaGreatDoor.Val w (.int .i64 (jN r s))) := by
 have hC : (mkC [3, 3, 3, 1] [true, true, true, true] [33] 9 [cN r k, cN s k, cN (r - s) (k + k + 1), jm (ii (sign (r - s)))] w).Ok := cL (cb (co jx _ _) (cb (co jx _ _) (cb (co jx _ _) (cb (cu _) cD)))) rfl rfl
 have hT : ∀ t ∈ ([⟨.call 28, [rq 0, rq 1], .val (rq 2)⟩, ⟨.call 33, [rq 2], .val (op 3)⟩] : List cW), t.Valid (mkC [3, 3, 3, 1] [true, true, true, true] [33] 9 [cN r k, cN s k, cN (r - s) (k + k + 1), jm (ii (sign (r - s)))] w) := by
  refine ca (e_rsub (pr rfl) (pr rfl) rfl (fitr_mk (Nat.le_refl _) (by omega)) (fitr_mk (by omega) (by decide))) (ca ⟨enters_of Tryz.func33 (by kernel_rfl) rfl, fun w vs hb hvs => ?_⟩ ce)
  obtain ⟨v1, _, rfl, h4, rfl⟩ := hvs
  refine (rsign_q v1 (r - s) w ((ji rfl).1 h4).1).mono ?_
  rintro e w' ⟨rfl, hb'⟩
  exact ⟨_, rfl, (jA rfl).2 rfl, hb'⟩
 refine (cM hC hT 32 Tryz.f32 [rq 0, rq 1] (.val (op 3)) 60 Tryz.func32 rfl rfl rfl (by kernel_rfl) [x, y] ⟨_, _, rfl, (ji rfl).2 ⟨hx, z1⟩, _, _, rfl, (ji rfl).2 ⟨hy, z2⟩, rfl⟩).mono ?_
 rintro e w' ⟨v, rfl, hv, hb⟩
 rw [(jA rfl).1 hv, ← sign_sub]
 exact ⟨rfl, hb⟩
section
variable {csz : List Nat} {numc : List Bool} {okT : List Nat} {nt : Nat} {cl : List Cl} {w0 : World} {w : World} {v : Value} {p1 p2 p3 p4 : jQ} {res : RPat} {c d c1 c2 c3 c4 c5 c6 : Nat} {r s t r1 r2 r3 r4 : Rat} {k k1 k2 k3 k4 k5 k6 : Nat}
theorem e_rcmp {x : Int} (h1 : PR csz numc okT nt cl w0 p1 r k1) (h2 : PR csz numc okT nt cl w0 p2 s k2) (hk : fitr (k1 + k2) 10000 = true) (h : jN r s = x) : V csz numc okT nt cl w0 (.call 32) [p1, p2] (.val (vp (.int .i64 x))) := by
 subst h
 have hk := jr hk
 exact ent_rrv (enters_of Tryz.func32 (by kernel_rfl) rfl) h1 h2 (fun W v1 v2 q1 z1 q2 z2 => rcmp_q v1 v2 r s (k1 + k2) W q1 q2 (z1.le (by omega)) (z2.le (by omega)) (by omega))
end
theorem cmpQ_cases (r s : Rat) : (jN r s = -1 ∧ r < s) ∨ (jN r s = 0 ∧ r = s) ∨ (jN r s = 1 ∧ s < r) := by
 unfold jN
 by_cases a : r < s
 · exact .inl ⟨if_pos a, a⟩
 · by_cases b : s < r
   · exact .inr (.inr ⟨by rw [if_neg a, if_pos b], b⟩)
   · exact .inr (.inl ⟨by rw [if_neg a, if_neg b], by grind⟩)
def jZ (r s : Rat) : Rat := if r ≤ s then r else s
def ka (r s : Rat) : Rat := if s ≤ r then r else s
theorem rmin_q (x y : Value) (r s : Rat) (k : Nat) (w : World) (hx : RQ w x r) (hy : RQ w y s) (z1 : cB r k) (z2 : cB s k) (hk : k ≤ 5000) : Calls Tryz.prog 106 #[x, y] w (RNew w (jZ r s)) := by
 have hC : (mkC [3, 3] [true, true] [33] 11 [cN r k, cN s k] w).Ok := cL (cb (co jx _ _) (cb (co jx _ _) cD)) rfl rfl
 have hT : ∀ i, jN r s = i → ∀ t ∈ ([⟨.call 32, [rq 0, rq 1], .val (vp (ii i))⟩] : List cW), t.Valid (mkC [3, 3] [true, true] [33] 11 [cN r k, cN s k] w) := fun i hi => ca (e_rcmp (pr rfl) (pr rfl) (fitr_mk (by omega) (by decide)) hi) ce
 have hv : jE (mkC [3, 3] [true, true] [33] 11 [cN r k, cN s k] w) w [rq 0, rq 1] [x, y] := ⟨_, _, rfl, (ji rfl).2 ⟨hx, z1⟩, _, _, rfl, (ji rfl).2 ⟨hy, z2⟩, rfl⟩
 unfold jZ
 rcases cmpQ_cases r s with ⟨h, g⟩ | ⟨h, g⟩ | ⟨h, g⟩
 · rw [if_pos (by grind)]
   refine (cM hC (hT _ h) 106 Tryz.f106 [rq 0, rq 1] (.val (rq 0)) 60 Tryz.func106 rfl rfl rfl (by kernel_rfl) [x, y] hv).mono ?_
   rintro e w' ⟨v, rfl, hv, hb⟩
   exact ⟨v, rfl, ((ji rfl).1 hv).1, hb⟩
 · rw [if_pos (by grind)]
   refine (cM hC (hT _ h) 106 Tryz.f106 [rq 0, rq 1] (.val (rq 0)) 60 Tryz.func106 rfl rfl rfl (by kernel_rfl) [x, y] hv).mono ?_
   rintro e w' ⟨v, rfl, hv, hb⟩
   exact ⟨v, rfl, ((ji rfl).1 hv).1, hb⟩
 · rw [if_neg (by grind)]
   refine (cM hC (hT _ h) 106 Tryz.f106 [rq 0, rq 1] (.val (rq 1)) 60 Tryz.func106 rfl rfl rfl (by kernel_rfl) [x, y] hv).mono ?_
   rintro e w' ⟨v, rfl, hv, hb⟩
   exact ⟨v, rfl, ((ji rfl).1 hv).1, hb⟩
theorem rmax_q (x y : Value) (r s : Rat) (k : Nat) (w : World) (hx : RQ w x r) (hy : RQ w y s) (z1 : cB r k) (z2 : cB s k) (hk : k ≤ 5000) : Calls Tryz.prog 107 #[x, y] w (RNew w (ka r s)) := by
 have hC : (mkC [3, 3] [true, true] [33] 11 [cN r k, cN s k] w).Ok := cL (cb (co jx _ _) (cb (co jx _ _) cD)) rfl rfl
 have hT : ∀ i, jN r s = i → ∀ t ∈ ([⟨.call 32, [rq 0, rq 1], .val (vp (ii i))⟩] : List cW), t.Valid (mkC [3, 3] [true, true] [33] 11 [cN r k, cN s k] w) := fun i hi => ca (e_rcmp (pr rfl) (pr rfl) (fitr_mk (by omega) (by decide)) hi) ce
 have hv : jE (mkC [3, 3] [true, true] [33] 11 [cN r k, cN s k] w) w [rq 0, rq 1] [x, y] := ⟨_, _, rfl, (ji rfl).2 ⟨hx, z1⟩, _, _, rfl, (ji rfl).2 ⟨hy, z2⟩, rfl⟩
 unfold ka
 rcases cmpQ_cases r s with ⟨h, g⟩ | ⟨h, g⟩ | ⟨h, g⟩
 · rw [if_neg (by grind)]
   refine (cM hC (hT _ h) 107 Tryz.f107 [rq 0, rq 1] (.val (rq 1)) 60 Tryz.func107 rfl rfl rfl (by kernel_rfl) [x, y] hv).mono ?_
   rintro e w' ⟨v, rfl, hv, hb⟩
   exact ⟨v, rfl, ((ji rfl).1 hv).1, hb⟩
 · rw [if_pos (by grind)]
   refine (cM hC (hT _ h) 107 Tryz.f107 [rq 0, rq 1] (.val (rq 0)) 60 Tryz.func107 rfl rfl rfl (by kernel_rfl) [x, y] hv).mono ?_
   rintro e w' ⟨v, rfl, hv, hb⟩
   exact ⟨v, rfl, ((ji rfl).1 hv).1, hb⟩
 · rw [if_pos (by grind)]
   refine (cM hC (hT _ h) 107 Tryz.f107 [rq 0, rq 1] (.val (rq 0)) 60 Tryz.func107 rfl rfl rfl (by kernel_rfl) [x, y] hv).mono ?_
   rintro e w' ⟨v, rfl, hv, hb⟩
   exact ⟨v, rfl, ((ji rfl).1 hv).1, hb⟩
theorem riszero_q (x : Value) (r : Rat) (w : World) (hx : RQ w x r) : Calls Tryz.prog 35 #[x] w (Go.Proofs.YtccabfblgjcboaaGreatDoor.Val w (.bool (decide (r = 0)))) := by
 have hC : (mkC [1, 1, 1, 1] [true, false, false, true] [33] 7 [jm (.bool (decide (r.num < 0))), ko (digs r.num.natAbs), ko (digs r.den), jm (ii ((digs r.num.natAbs).length : Int))] w).Ok := cL (cb (clVb_ok _) (cb (cF jx _) (cb (cF jx _) (cb (cu _) cD)))) rfl rfl
 have h0 := digs_pos_len (n := r.num.natAbs)
 have h1 : r.num = 0 ↔ r = 0 := Rat.num_eq_zero
 have hT : ∀ b, decide (r = 0) = b → ∀ t ∈ ([⟨.blt .len [31] 3, [op 1], .val (op 3)⟩, ⟨.bin .eql 3, [op 3, vp (ii 0)], .val (vp (.bool b))⟩] : List cW), t.Valid (mkC [1, 1, 1, 1] [true, false, false, true] [33] 7 [jm (.bool (decide (r.num < 0))), ko (digs r.num.natAbs), ko (digs r.den), jm (ii ((digs r.num.natAbs).length : Int))] w) :=
  fun b hb => ca (e_len cU (pd rfl) (rv rfl)) (ca (e_eql (pv rfl) jR (by rw [← hb]; congr 1; apply propext; rw [← h1]; omega)) ce)
 cases hd : decide (r = 0) with
 | true =>
  refine (cM hC (hT _ hd) 35 Tryz.f35 [rp 0 1 2] (.val (vp (.bool true))) 60 Tryz.func35 rfl rfl rfl (by kernel_rfl) [x] ⟨_, _, rfl, (rp_is rfl rfl rfl).2 hx, rfl⟩).mono ?_
  rintro e w' ⟨v, rfl, hv, hb⟩
  rw [val_of hv]
  exact ⟨rfl, hb⟩
 | false =>
  refine (cM hC (hT _ hd) 35 Tryz.f35 [rp 0 1 2] (.val (vp (.bool false))) 60 Tryz.func35 rfl rfl rfl (by kernel_rfl) [x] ⟨_, _, rfl, (rp_is rfl rfl rfl).2 hx, rfl⟩).mono ?_
  rintro e w' ⟨v, rfl, hv, hb⟩
  rw [val_of hv]
  exact ⟨rfl, hb⟩
section
variable {csz : List Nat} {numc : List Bool} {okT : List Nat} {nt : Nat} {cl : List Cl} {w0 : World} {w : World} {v : Value} {p1 p2 p3 p4 : jQ} {res : RPat} {c d c1 c2 c3 c4 c5 c6 : Nat} {r s t r1 r2 r3 r4 : Rat} {k k1 k2 k3 k4 k5 k6 : Nat}
theorem minQ_siz (z1 : cB r k) (z2 : cB s k) : cB (jZ r s) k := by unfold jZ; split <;> assumption
theorem maxQ_siz (z1 : cB r k) (z2 : cB s k) : cB (ka r s) k := by unfold ka; split <;> assumption
theorem e_riszero {b : Bool} (h1 : PR csz numc okT nt cl w0 p1 r k1) (h : decide (r = 0) = b) : V csz numc okT nt cl w0 (.call 35) [p1] (.val (vp (.bool b))) := by
 subst h
 exact ent_rv (enters_of Tryz.func35 (by kernel_rfl) rfl) h1 (fun W v q _ => riszero_q v r W q)
end
end Sym
open Go Go.RowKit Go.Proofs Lim
namespace Sym
def rl (s : Bool) (c d : Nat) : jQ := .agg [.lit (.bool s), .cls c 1, .cls d 1]
section
variable {csz : List Nat} {numc : List Bool} {okT : List Nat} {nt : Nat} {cl : List Cl} {w0 : World} {w : World} {v z : Value} {p1 p2 p3 p4 : jQ} {res : RPat} {c d c1 c2 c3 c4 c5 c6 : Nat} {r s t r1 r2 r3 r4 : Rat} {k k1 k2 k3 k4 k5 k6 : Nat}
theorem rl_is2 {s : Bool} {a b : Nat} (h1 : cl[c]? = some (ko (digs a))) (h2 : cl[d]? = some (ko (digs b))) : (rl s c d).is (mkC csz numc okT nt cl w0) w v ↔ RatP w v s a b := by
 constructor
 · rintro ⟨vs, ⟨xs, ys, rfl, rfl, xs2, ys2, rfl, ⟨f, hE, rfl⟩, xs3, ys3, rfl, ⟨g, hE', rfl⟩, h5⟩, rfl⟩
   rw [show ys3 = [] from h5]
   simp only [mkC, h1] at hE
   simp only [mkC, h2] at hE'
   exact ⟨f 0, g 0, by simp [List.range_succ], hE, hE'⟩
 · rintro ⟨x, y, rfl, ha, hb⟩
   refine ⟨[.bool s, x, y], ⟨[.bool s], [x, y], rfl, rfl, [x], [y], rfl, ⟨fun _ => x, ?_, rfl⟩, [y], [], rfl, ⟨fun _ => y, ?_, rfl⟩, rfl⟩, rfl⟩
   · simp only [mkC, h1]; exact ha
   · simp only [mkC, h2]; exact hb
theorem hd_un {o : Oper} {u : UnOp} {t : Nat} {xs : List Operand} (h : opHd o = some (.un u t, xs)) : ∃ x, o.op = .unOp u t x ∧ xs = [x] := by
 unfold opHd at h
 split at h <;> first
  | (rename_i h0; simp only [Option.some.injEq, Prod.mk.injEq, Hd.un.injEq, reduceCtorEq, false_and] at h; try (obtain ⟨⟨rfl, rfl⟩, rfl⟩ := h; exact ⟨_, h0, rfl⟩))
  | (split at h <;> simp at h)
  | simp at h
theorem e_un {u : UnOp} {t : Nat} {x : Value} (h1 : PV csz numc okT nt cl w0 p1 x) (h3 : RV csz numc okT nt cl w0 res z) (hr : ∀ w, (Op.unary u x).run Tryz.prog w = .ok z w) : V csz numc okT nt cl w0 (.un u t) [p1] res := by
 intro w ρ oo xs ho hb hvs
 obtain ⟨a, hop, rfl⟩ := hd_un ho
 obtain ⟨v1, _, e1, h4, e2⟩ := hvs
 obtain rfl := h1 _ _ h4
 subst e2
 simp only [List.map_cons, List.map_nil, List.cons.injEq] at e1
 obtain ⟨ea, _⟩ := e1
 refine ⟨z, w, ?_, h3 w, Below.refl _ _⟩
 show (execOp ρ oo).run Tryz.prog w = _
 simp only [execOp, hop, ea, Sem.run_bind, hr w, Result.andThen_ok]
 rfl
theorem e_negi {t : Nat} {x u : Int} (hz : -x = u) (h1 : PV csz numc okT nt cl w0 p1 (ii x)) (h3 : RV csz numc okT nt cl w0 res (ii u)) (hr : -9223372036854775808 ≤ u ∧ u ≤ 9223372036854775807) : V csz numc okT nt cl w0 (.un .neg t) [p1] res :=
 e_un h1 h3 (fun w => by
  show Result.ok (Value.int .i64 (IntKind.i64.wrap (0 - x))) w = _
  rw [show 0 - x = u by omega, show IntKind.i64.wrap u = u by rw [IntKind.wrap_i64]; omega])
theorem e_addu {t : Nat} {x y u : Int} (hz : x + y = u) (h1 : PV csz numc okT nt cl w0 p1 (.int .u64 x)) (h2 : PV csz numc okT nt cl w0 p2 (.int .u64 y)) (h3 : RV csz numc okT nt cl w0 res (.int .u64 u)) (hr : 0 ≤ u ∧ u ≤ 18446744073709551615) : V csz numc okT nt cl w0 (.bin .add t) [p1, p2] res :=
 e_bin h1 h2 h3 (fun w => by
  show Result.ok (Value.int .u64 (IntKind.u64.wrap (x + y))) w = _
  rw [hz, show IntKind.u64.wrap u = u by rw [IntKind.wrap_u64]; omega])
end
theorem digs_one : digs 1 = [1] := by rw [digs_pos (by decide), show (1 : Nat) / 10000 = 0 from rfl, digs_zero]
theorem clVu_ok {okT : List Nat} {B : Nat} (n : Int) : (jm (.int .u64 n)).Ok okT B := clV_ok rfl
theorem rq_intcast {w : World} {v : Value} {i : Int} {s : Bool} (hs : s = decide (i < 0)) (h : RatP w v s i.natAbs 1) : RQ w v (i : Rat) := by
 subst hs
 exact h
theorem rint_q (i : Int) (h1 : -9223372036854775808 ≤ i) (h2 : i ≤ 9223372036854775807) (w : World) : Calls Tryz.prog 16 #[.int .i64 i] w (RNew w (i : Rat)) := by
 by_cases hi : i < 0
 · have hC : (mkC [1, 1, 1, 1, 1, 1, 1] [true, true, true, true, true, false, false] [33] 18 [jm (ii i), jm (ii (i + 1)), jm (ii (-(i + 1))), jm (.int .u64 (-(i + 1))), jm (.int .u64 ((i.natAbs : Nat) : Int)), ko (digs i.natAbs), ko (digs 1)] w).Ok :=
    cL (cb (cu _) (cb (cu _) (cb (cu _) (cb (clVu_ok _) (cb (clVu_ok _) (cb (cF jx _) (cb (cF jx _) cD))))))) rfl rfl
   have hT : ∀ t ∈ ([⟨.bin .lss 2, [op 0, vp (ii 0)], .val (vp (.bool true))⟩, ⟨.bin .add 2, [op 0, vp (ii 1)], .val (op 1)⟩, ⟨.un .neg 2, [op 1], .val (op 2)⟩, ⟨.cv 2 23, [op 2], .val (op 3)⟩,
    ⟨.bin .add 23, [op 3, vp (.int .u64 1)], .val (op 4)⟩, ⟨.call 87, [op 4], .val (op 5)⟩, ⟨.bs 31 1, [vp (ii 1)], .val (op 6)⟩] : List cW), t.Valid (mkC [1, 1, 1, 1, 1, 1, 1] [true, true, true, true, true, false, false] [33] 18 [jm (ii i), jm (ii (i + 1)), jm (ii (-(i + 1))), jm (.int .u64 (-(i + 1))), jm (.int .u64 ((i.natAbs : Nat) : Int)), ko (digs i.natAbs), ko (digs 1)] w) :=
    ca (kj (pv rfl) jR (decide_eq_true hi)) (ca (e_add rfl (pv rfl) jR (rv rfl) (by omega)) (ca (e_negi rfl (pv rfl) (rv rfl) (by omega)) (ca (e_cv (by kernel_rfl) (by kernel_rfl) (by kernel_rfl) (pv rfl) (rv rfl) (by rw [IntKind.wrap_u64]; omega))
     (ca (e_addu (by omega) (pv rfl) jR (rv rfl) (by omega)) (ca (e_small (by omega) (pv rfl) (rd rfl)) (ca (e_bs1 (x := 1) jR (rd (by rw [← digs_one]; rfl))) ce))))))
   refine (cM hC hT 16 Tryz.f16 [op 0] (.val (rl true 5 6)) 60 Tryz.func16 rfl rfl rfl (by kernel_rfl) [.int .i64 i] ⟨_, _, rfl, (jA rfl).2 rfl, rfl⟩).mono ?_
   rintro e w' ⟨v, rfl, hv, hb⟩
   exact ⟨v, rfl, rq_intcast (by simp [hi]) ((rl_is2 rfl rfl).1 hv), hb⟩
 · have hC : (mkC [1, 1, 1, 1] [true, true, false, false] [33] 18 [jm (ii i), jm (.int .u64 ((i.natAbs : Nat) : Int)), ko (digs i.natAbs), ko (digs 1)] w).Ok :=
    cL (cb (cu _) (cb (clVu_ok _) (cb (cF jx _) (cb (cF jx _) cD)))) rfl rfl
   have ei : (i.natAbs : Int) = i := by omega
   have hT : ∀ t ∈ ([⟨.bin .lss 2, [op 0, vp (ii 0)], .val (vp (.bool false))⟩, ⟨.cv 2 23, [op 0], .val (op 1)⟩,
    ⟨.call 87, [op 1], .val (op 2)⟩, ⟨.bs 31 1, [vp (ii 1)], .val (op 3)⟩] : List cW), t.Valid (mkC [1, 1, 1, 1] [true, true, false, false] [33] 18 [jm (ii i), jm (.int .u64 ((i.natAbs : Nat) : Int)), ko (digs i.natAbs), ko (digs 1)] w) :=
    ca (kj (pv rfl) jR (decide_eq_false hi)) (ca (e_cv (x := i) (by kernel_rfl) (by kernel_rfl) (by kernel_rfl) (pv rfl) (by rw [← ei]; exact rv rfl) (by rw [IntKind.wrap_u64]; omega))
     (ca (e_small (by omega) (pv rfl) (rd rfl)) (ca (e_bs1 (x := 1) jR (rd (by rw [← digs_one]; rfl))) ce)))
   refine (cM hC hT 16 Tryz.f16 [op 0] (.val (rl false 2 3)) 60 Tryz.func16 rfl rfl rfl (by kernel_rfl) [.int .i64 i] ⟨_, _, rfl, (jA rfl).2 rfl, rfl⟩).mono ?_
   rintro e w' ⟨v, rfl, hv, hb⟩
   exact ⟨v, rfl, rq_intcast (by simp [hi]) ((rl_is2 rfl rfl).1 hv), hb⟩
section
variable {csz : List Nat} {numc : List Bool} {okT : List Nat} {nt : Nat} {cl : List Cl} {w0 : World} {w : World} {v z : Value} {p1 p2 p3 p4 : jQ} {res : RPat} {c d c1 c2 c3 c4 c5 c6 : Nat} {r s t r1 r2 r3 r4 : Rat} {k k1 k2 k3 k4 k5 k6 : Nat}
end
section
variable {csz : List Nat} {numc : List Bool} {okT : List Nat} {nt : Nat} {cl : List Cl} {w0 : World} {w : World} {v z : Value} {p1 p2 p3 p4 : jQ} {res : RPat} {c d c1 c2 c3 c4 c5 c6 : Nat} {r s t r1 r2 r3 r4 : Rat} {k k1 k2 k3 k4 k5 k6 : Nat}
theorem e_rint {i : Int} (h1 : -9223372036854775808 ≤ i) (h2 : i ≤ 9223372036854775807) (h3 : cl[c3]? = some (cN (i : Rat) k3)) (hk : fitr 1 k3 = true) : V csz numc okT nt cl w0 (.call 16) [vp (ii i)] (.val (rq c3)) := by
 refine ⟨enters_of Tryz.func16 (by kernel_rfl) rfl, fun w vs hb hvs => ?_⟩
 obtain ⟨v1, _, rfl, g4, rfl⟩ := hvs
 obtain rfl := kp.1 g4
 refine (rint_q i h1 h2 w).mono ?_
 rintro e w' ⟨v, rfl, hv, hb'⟩
 exact ⟨v, rfl, (ji h3).2 ⟨hv, (siz_int i h1 h2).le (jr hk).1⟩, hb'⟩
end
end Sym
open Go Go.RowKit Go.Proofs Lim
namespace Sym
section
variable {csz : List Nat} {numc : List Bool} {okT : List Nat} {nt : Nat} {cl : List Cl} {w0 : World} {w : World} {v z : Value} {p1 p2 p3 p4 : jQ} {res : RPat} {c d c1 c2 c3 c4 c5 c6 : Nat} {a b l : List UInt8}
theorem und_str : Tryz.prog.underlying 9 = some .string := by kernel_rfl
theorem e_cat (hl : a.length + b.length ≤ 4000000000000000000) (h1 : PV csz numc okT nt cl w0 p1 (je a)) (h2 : PV csz numc okT nt cl w0 p2 (je b)) (h3 : RV csz numc okT nt cl w0 res (je (a ++ b))) : V csz numc okT nt cl w0 (.bin .add 9) [p1, p2] res := by
 intro w ρ oo xs ho hb hvs
 obtain ⟨x, y, u, hop, rfl⟩ := hd_bin ho
 obtain ⟨v1, _, e1, h4, v2, _, e2, h5, e3⟩ := hvs
 obtain rfl := h1 _ _ h4
 obtain rfl := h2 _ _ h5
 subst e2
 simp only [List.map_cons, List.map_nil, List.cons.injEq] at e1
 obtain ⟨ea, eb, _⟩ := e1
 refine ⟨_, w, ?_, h3 w, Below.refl _ _⟩
 show (execOp ρ oo).run Tryz.prog w = _
 have hg : (eqGuard .add 9 x y (je a) (je b)).run Tryz.prog w = .ok () w := rfl
 have hr : (Go.binOp .add 9 (je a) (je b)).run Tryz.prog w = .ok (je (a ++ b)) w := by
  have hn : ¬ ((a.length + b.length : Nat) : Int) > IntKind.i64.max := by
   show ¬ ((a.length + b.length : Nat) : Int) > 9223372036854775807
   omega
  have e : (⟨a.toArray⟩ : ByteArray) ++ ⟨b.toArray⟩ = ⟨(a ++ b).toArray⟩ := bapp a b
  show (Op.stringOp .add ⟨a.toArray⟩ ⟨b.toArray⟩).run Tryz.prog w = _
  unfold Op.stringOp
  have hs : ((((⟨a.toArray⟩ : ByteArray).size + (⟨b.toArray⟩ : ByteArray).size : Nat)) : Int) = ((a.length + b.length : Nat) : Int) := rfl
  simp only [hs, if_neg hn, e]
  rfl
 simp only [execOp, hop, ea, eb, Sem.run_bind, hg, hr, Result.andThen_ok]
 rfl
theorem e_chr {x : Nat} {u : UInt8} (hu : ((u.toNat : Nat) : Int) = (x : Int)) (h1 : ∀ w vs, jL (mkC csz numc okT nt cl w0) w [.cls c 1] vs → vs = [.int .u8 (x : Int)]) (h3 : RV csz numc okT nt cl w0 res (je [u])) : V csz numc okT nt cl w0 (.cv 100 9) [.slc 5 1 [.cls c 1]] res := by
 intro w ρ oo xs ho hb hvs
 obtain ⟨y, hop, rfl⟩ := hd_cv ho
 obtain ⟨v1, _, e1, ⟨k, vs, rfl, hk, hg⟩, e2⟩ := hvs
 subst e2
 simp only [List.map_cons, List.map_nil, List.cons.injEq] at e1
 obtain ⟨ea, _⟩ := e1
 obtain rfl := h1 _ _ hg
 refine ⟨_, w, ?_, h3 w, Below.refl _ _⟩
 show (execOp ρ oo).run Tryz.prog w = _
 have hr := run_convert_bytes_back (P := Tryz.prog) w 100 9 5 ⟨k, 0, none⟩ 1 [u] (by kernel_rfl) (by kernel_rfl) (by kernel_rfl) (fun j hj => by
  have hj : j < 1 := hj
  obtain rfl : j = 0 := by omega
  have : w.cell? ⟨k, 0, none⟩ = some (.int .u8 (x : Int)) := by simp [World.cell?, hk]
  rw [show (⟨k, 0, none⟩ : Addr).add 0 = ⟨k, 0, none⟩ from jo k 0 0, this]
  simp [hu])
 have hr : (convert 100 9 (.slice (some ⟨k, 0, none⟩) 1 1)).run Tryz.prog w = .ok (.string ⟨#[u]⟩) w := hr
 simp only [execOp, hop, ea, Sem.run_bind, hr, Result.andThen_ok]
 rfl
end
theorem grp1 {csz : List Nat} {numc : List Bool} {okT : List Nat} {nt : Nat} {cl : List Cl} {w0 w : World} {c : Nat} {x : Value} (h : cl[c]? = some (clW x)) : ∀ w vs, jL (mkC csz numc okT nt cl w0) w [.cls c 1] vs → vs = [x] := by
 rintro w vs ⟨xs, ys, rfl, ⟨f, hE, rfl⟩, hy⟩
 rw [show ys = [] from hy]
 simp only [mkC, h] at hE
 have hE : f 0 = x := hE
 simp [List.range_succ, hE]
theorem digs_drop : ∀ (j n : Nat), (digs n).drop j = digs (n / 10000 ^ j)
 | 0, n => by simp
 | j + 1, n => by
  by_cases h : n = 0
  · subst h
    rw [digs_zero, Nat.zero_div, digs_zero]; rfl
  · rw [digs_pos h, List.drop_succ_cons, digs_drop j, Nat.div_div_eq_div_mul, Nat.pow_succ, Nat.mul_comm]
theorem nat_drop_pos {n j : Nat} (h : j < (digs n).length) : 0 < cG ((digs n).drop j) := by
 rw [digs_drop, cw]
 have : 0 < ((digs n).drop j).length := by rw [List.length_drop]; omega
 rw [digs_drop] at this
 exact Nat.pos_of_ne_zero (digs_pos_len.1 this)
def sof (pre : List Nat) : List UInt8 := (pre.map dbyte).reverse
theorem sof_snoc (pre : List Nat) (d : Nat) : sof (pre ++ [d]) = [dbyte d] ++ sof pre := by unfold sof; simp
theorem sof_len (pre : List Nat) : (sof pre).length = pre.length := by unfold sof; simp
abbrev vl_dig (x : Value) (ds : List Nat) (i d k : Nat) (s : List UInt8) : List Value := [x, ii (i : Int), ii (d : Int), ii (k : Int), je s, ii (ds.length : Int), ii ((ds.length : Int) - 1), jI x i, ii ((ds.getD i 0 : Nat) : Int), ii ((d % 10 : Nat) : Int), ii ((48 + d % 10 : Nat) : Int), .int .u8 ((48 + d % 10 : Nat) : Int), je [dbyte (d % 10)], je ([dbyte (d % 10)] ++ s), ii ((d / 10 : Nat) : Int), ii ((k + 1 : Nat) : Int), ii ((i + 1 : Nat) : Int)]
theorem dig_one {x : Value} (hx : x.oneCell' = true) (ds : List Nat) (i d k : Nat) (s : List UInt8) : ∀ v ∈ vl_dig x ds i d k s, v.oneCell' = true :=
 cg hx (cg rfl (cg rfl (cg rfl (cg rfl (cg rfl (cg rfl (cg (jy _ _) (cg rfl (cg rfl (cg rfl (cg rfl (cg rfl (cg rfl (cg rfl (cg rfl (cg rfl cR))))))))))))))))
def t_digL (b : Bool) : List cW := [⟨.blt .len [31] 3, [op 0], .val (op 5)⟩, ⟨.bin .lss 3, [op 1, op 5], .val (vp (.bool b))⟩, ⟨.bin .add 3, [op 1, vp (ii 1)], .val (op 16)⟩]
theorem dig_L {x : Value} {ds : List Nat} {i d k : Nat} {s : List UInt8} {w : World} (hx : Dg w x ds) (hi : i < 1000000000) {b : Bool} (h : decide (i < ds.length) = b) : ∀ t ∈ t_digL b, t.Valid (CV 46 (vl_dig x ds i d k s) w) :=
 ca (e_len cU (pdW rfl hx) (kn rfl)) (ca (kj (jj rfl) (jj rfl) (by rw [← h]; simp)) (ca (e_add (by omega) (jj rfl) jR (kn rfl) (by omega)) ce))
def t_digR : List cW := [⟨.ix 31, [op 0, op 1], .val (op 7)⟩, ⟨.ld 3, [op 7], .val (op 8)⟩]
theorem dig_R {x : Value} {ds : List Nat} {i d k : Nat} {s : List UInt8} {w : World} (hx : Dg w x ds) (hi : i < ds.length) : ∀ t ∈ t_digR, t.Valid (CV 46 (vl_dig x ds i d k s) w) :=
 ca (e_ixW cU elem_nat (jj rfl) hx (jj rfl) hi (kn rfl)) (ca (e_ldW (jj rfl) hx hi (kn rfl)) ce)
def t_digG (b1 b2 b3 : Bool) : List cW := [⟨.bin .lss 3, [op 3, vp (ii 4)], .val (vp (.bool b1))⟩, ⟨.blt .len [31] 3, [op 0], .val (op 5)⟩, ⟨.bin .sub 3, [op 5, vp (ii 1)], .val (op 6)⟩, ⟨.bin .lss 3, [op 1, op 6], .val (vp (.bool b2))⟩, ⟨.bin .gtr 3, [op 2, vp (ii 0)], .val (vp (.bool b3))⟩]
theorem dig_G {x : Value} {ds : List Nat} {i d k : Nat} {s : List UInt8} {w : World} (hx : Dg w x ds) (hl : ds.length < 1000000000) {b1 b2 b3 : Bool} (h1 : decide (k < 4) = b1) (h2 : decide (i + 1 < ds.length) = b2) (h3 : decide (0 < d) = b3) : ∀ t ∈ t_digG b1 b2 b3, t.Valid (CV 46 (vl_dig x ds i d k s) w) :=
 ca (kj (jj rfl) jR (by rw [← h1]; congr 1; apply propext; omega)) (ca (e_len cU (pdW rfl hx) (kn rfl)) (ca (e_sub rfl (jj rfl) jR (kn rfl) (by omega)) (ca (kj (jj rfl) (jj rfl) (by rw [← h2]; congr 1; apply propext; omega)) (ca (kw (jj rfl) jR (by rw [← h3]; congr 1; apply propext; omega)) ce))))
def t_digB : List cW := [⟨.bin .rem 3, [op 2, vp (ii 10)], .val (op 9)⟩, ⟨.bin .add 3, [vp (ii 48), op 9], .val (op 10)⟩, ⟨.cv 3 5, [op 10], .val (op 11)⟩, ⟨.cv 100 9, [.slc 5 1 [.cls 11 1]], .val (op 12)⟩, ⟨.bin .add 9, [op 12, op 4], .val (op 13)⟩,
 ⟨.bin .quo 3, [op 2, vp (ii 10)], .val (op 14)⟩, ⟨.bin .add 3, [op 3, vp (ii 1)], .val (op 15)⟩]
theorem dig_B {x : Value} {ds : List Nat} {i d k : Nat} {s : List UInt8} {w : World} (hd : d < 10000) (hk : k < 4) (hs : s.length < 4000000000) : ∀ t ∈ t_digB, t.Valid (CV 46 (vl_dig x ds i d k s) w) :=
 ca (e_rem (k := .i64) (n := 10) (jj rfl) jR (kn rfl) (by decide)) (ca (e_add (by omega) jR (jj rfl) (kn rfl) (by omega)) (ca (e_cv (by kernel_rfl) (by kernel_rfl) (by kernel_rfl) (jj rfl) (kn rfl) (by show (((48 + d % 10 : Nat) : Int)) % 256 = _; omega))
  (ca (e_chr (x := 48 + d % 10) (by rw [dbyte_toNat (by omega)]) (grp1 (w := w) rfl) (kn rfl)) (ca (e_cat (by simp; omega) (jj rfl) (jj rfl) (kn rfl)) (ca (e_quo (k := .i64) (n := 10) (jj rfl) jR (kn rfl) (by decide) (by rw [IntKind.wrap_i64]; omega)) (ca (e_add (by omega) (jj rfl) jR (kn rfl) (by omega)) ce))))))
noncomputable def b_dig : Code := bodyOf Tryz.f125
noncomputable def lo_dig : Code := cP (cP (cq (cI (cq (cq (cq b_dig))))))
noncomputable def li_dig : Code := cP (cP (cq (cq (cP (cI (cq lo_dig))))))
theorem then_ret {K : Act → World → Prop} {Q : Exit → Act → World → Prop} {a : Act} {w : World} (h : Q .ret a w) : Exit.then K Q .ret a w := h
theorem calls_v1 {nt : Nat} {w : World} {f : FuncId} {fn : Func} {c : Code} (hf : Tryz.prog.funcs[f]? = some fn) (hb : fn.body = some c) (hnt : fn.ntmps = nt) (hlen : Nat.ble 1 nt = true) (x : Value) {Q : Ending → World → Prop}
 (h : ∀ a, kl nt [x] [(0, 0)] a → c.wp Tryz.prog (bodyPost Tryz.prog fn Q) a w) : Calls Tryz.prog f #[x] w Q :=
 calls_at (C := CV nt [x] w) (args := [op 0]) hf hb hnt (Nat.le_of_ble_eq_true hlen) (vs := [x]) ⟨_, _, rfl, (cS rfl).2 rfl, rfl⟩ (fun a hA => h a ⟨hA.defers, hA.size, (items_sl (is := [(0, 0)]) (rest := []) rfl hA.items).1⟩)
theorem digs10_step {R d p U : Nat} (hR : R = d + 10 * p * U) (h0 : R ≠ 0) : Lim.digs R = d % 10 :: Lim.digs (d / 10 + p * U) := by
 rw [Lim.digs_pos h0]
 have e : R = d + 10 * (p * U) := by rw [hR, Nat.mul_assoc]
 rw [show R % 10 = d % 10 by omega, show R / 10 = d / 10 + p * U by omega]
theorem digs10_len (n : Nat) : (Lim.digs n).length ≤ 4 * (digs n).length := by
 refine Lim.digs_len ?_
 have := nat_bound (digs_lt n)
 rw [cw] at this
 rw [Nat.pow_mul]
 exact this
theorem dig_inner (x : Value) (n i : Nat) (hi : i < (digs n).length) (hl : (digs n).length < 100000000) (pre0 : List Nat) (h0 : Lim.digs n = pre0 ++ Lim.digs ((digs n).getD i 0 + 10000 * cG ((digs n).drop (i + 1)))) (a : Act) (w : World) (hx : Dg w x (digs n))
 (hs : kl 46 (vl_dig x (digs n) i ((digs n).getD i 0) 0 (sof pre0)) [(0, 0), (3, 4), (4, 1), (5, 2), (6, 3)] a) {Q : Exit → Act → World → Prop}
 (hQ : ∀ a' w' pre, Lim.digs n = pre ++ Lim.digs (cG ((digs n).drop (i + 1))) → kl 46 (vl_dig x (digs n) i 0 0 (sof pre)) [(0, 0), (3, 4), (4, 1)] a' → Below w.heap.size w w' → Q .normal a' w') : (Code.block 2 (.loop li_dig)).wp Tryz.prog Q a w := by
 have hx9 := hx.one
 have hU : i + 1 < (digs n).length → 0 < cG ((digs n).drop (i + 1)) := fun h => nat_drop_pos h
 have hU0 : ¬ i + 1 < (digs n).length → cG ((digs n).drop (i + 1)) = 0 := fun h => kf (by omega)
 have hd0 := cJ n i
 have hl10 := digs10_len n
 generalize hds : digs n = ds at *
 generalize cG (ds.drop (i + 1)) = U at *
 generalize ds.getD i 0 = d0 at *
 refine jz (Θ := Nat × Nat × List Nat) (fun θ a w1 => θ.1 ≤ 4 ∧ θ.2.1 < 10 ^ (4 - θ.1) ∧ Lim.digs n = θ.2.2 ++ Lim.digs (θ.2.1 + 10 ^ (4 - θ.1) * U) ∧ kl 46 (vl_dig x ds i θ.2.1 θ.1 (sof θ.2.2)) [(0, 0), (3, 4), (4, 1), (5, 2), (6, 3)] a ∧ Below w.heap.size w w1) (fun θ => 4 - θ.1) ?_ (0, d0, pre0) ⟨Nat.zero_le _, hd0, h0, hs, Below.refl _ _⟩
 rintro ⟨k, d, pre⟩ a w1 ⟨hk, hd, hdig, hs, hb⟩
 have hk : k ≤ 4 := hk
 have hd : d < 10 ^ (4 - k) := hd
 have hdig : Lim.digs n = pre ++ Lim.digs (d + 10 ^ (4 - k) * U) := hdig
 have hx1 := hx.below hb (Nat.le_refl _)
 have hd4 : d < 10000 := Nat.lt_of_lt_of_le hd (Nat.pow_le_pow_right (by decide) (by omega : 4 - k ≤ 4))
 have hpl : (sof pre).length < 4000000000 := by
  have := congrArg List.length hdig
  rw [List.length_append] at this
  rw [sof_len]
  omega
 have hl9 : ds.length < 1000000000 := by omega
 have one := dig_one hx9 ds i d k (sof pre)
 by_cases hgo : k < 4 ∧ (i + 1 < ds.length ∨ 0 < d)
 · have key : ∀ (Q' : Exit → Act → World → Prop), (∀ a' w', kl 46 (vl_dig x ds i d k (sof pre)) [(0, 0), (3, 4), (4, 1), (5, 2), (6, 3)] a' → Below w1.heap.size w1 w' → Q' .normal a' w') → (cI li_dig).wp Tryz.prog Q' a w1 := by
    intro Q' hQ'
    cases h2 : decide (i + 1 < ds.length) <;> cases h3 : decide (0 < d)
    · exfalso
      rcases hgo.2 with h | h
      · exact of_decide_eq_false h2 h
      · exact of_decide_eq_false h3 h
    all_goals exact cZ [(0, 0), (3, 4), (4, 1), (5, 2), (6, 3)] [(0, 0), (3, 4), (4, 1), (5, 2), (6, 3)] (n := 30) (x := .normal) one (dig_G hx1 hl9 (decide_eq_true hgo.1) h2 h3) hs (by kernel_rfl) rfl rfl hQ'
   refine wp_seq (key _ (fun a5 w5 hs hb5 => ?_))
   have hb := hb.trans (hb5.mono hb.size)
   refine wp_seq (wp_block (wp_seq (cZ [(0, 0), (3, 4), (4, 1), (5, 2), (6, 3)] [(0, 0), (3, 13), (4, 1), (5, 2), (6, 3)] (n := 30) (x := .normal) one (dig_B hd4 hgo.1 hpl) hs (by kernel_rfl) rfl rfl (fun a6 w6 hs hb6 => ?_))))
   have hb := hb.trans (hb6.mono hb.size)
   refine cZ [(0, 0), (3, 13), (4, 1), (5, 2), (6, 3)] [(0, 0), (3, 13), (4, 1), (5, 14), (6, 3)] (n := 30) (x := .normal) one (dig_B hd4 hgo.1 hpl) hs (by kernel_rfl) rfl rfl (fun a7 w7 hs hb7 => ?_)
   have hb := hb.trans (hb7.mono hb.size)
   show (cq (cq li_dig)).wp Tryz.prog _ _ _
   refine cZ [(0, 0), (3, 13), (4, 1), (5, 14), (6, 3)] [(0, 0), (3, 13), (4, 1), (5, 14), (6, 15)] (n := 30) (x := .normal) one (dig_B hd4 hgo.1 hpl) hs (by kernel_rfl) rfl rfl (fun a8 w8 hs hb8 => ?_)
   have hb := hb.trans (hb8.mono hb.size)
   have hp : 10 ^ (4 - k) = 10 * 10 ^ (4 - (k + 1)) := by rw [show 4 - k = 4 - (k + 1) + 1 by omega, Nat.pow_succ, Nat.mul_comm]
   refine ⟨(k + 1, d / 10, pre ++ [d % 10]), ⟨hgo.1, ?_, ?_, ?_, hb⟩, ?_⟩
   · show d / 10 < 10 ^ (4 - (k + 1))
     rw [hp] at hd
     omega
   · show Lim.digs n = (pre ++ [d % 10]) ++ Lim.digs (d / 10 + 10 ^ (4 - (k + 1)) * U)
     have hne : d + 10 ^ (4 - k) * U ≠ 0 := by
      rcases hgo.2 with h | h
      · have h1 := hU h
        have h2 : 0 < 10 ^ (4 - k) := Nat.pow_pos (by decide)
        have := Nat.mul_pos h2 h1
        omega
      · omega
     rw [hdig, digs10_step (p := 10 ^ (4 - (k + 1))) (d := d) (U := U) (by rw [← hp]) hne, List.append_assoc]
     rfl
   · have : sof (pre ++ [d % 10]) = [dbyte (d % 10)] ++ sof pre := sof_snoc _ _
     show kl 46 (vl_dig x ds i (d / 10) (k + 1) (sof (pre ++ [d % 10]))) _ _
     rw [this]
     exact ⟨hs.defers, hs.size, hs.sl⟩
   · show 4 - (k + 1) < 4 - k
     omega
 · have key : ∀ (Q' : Exit → Act → World → Prop), (∀ a' w', kl 46 (vl_dig x ds i d k (sof pre)) [(0, 0), (3, 4), (4, 1)] a' → Below w1.heap.size w1 w' → Q' (.exit 2) a' w') → (cI li_dig).wp Tryz.prog Q' a w1 := by
    intro Q' hQ'
    cases h1 : decide (k < 4) <;> cases h2 : decide (i + 1 < ds.length) <;> cases h3 : decide (0 < d)
    all_goals first
     | (exfalso; exact hgo ⟨of_decide_eq_true h1, .inl (of_decide_eq_true h2)⟩)
     | (exfalso; exact hgo ⟨of_decide_eq_true h1, .inr (of_decide_eq_true h3)⟩)
     | exact cZ [(0, 0), (3, 4), (4, 1), (5, 2), (6, 3)] [(0, 0), (3, 4), (4, 1)] (n := 30) (x := .exit 2) one (dig_G hx1 hl9 h1 h2 h3) hs (by kernel_rfl) rfl rfl hQ'
   refine wp_seq (key _ (fun a5 w5 hs hb5 => ?_))
   refine hQ a5 w5 pre ?_ ⟨hs.defers, hs.size, hs.sl⟩ (hb.trans (hb5.mono hb.size))
   rw [hdig]
   congr 2
   rcases Nat.lt_or_ge k 4 with h4 | h4
   · have hd0 : d = 0 := by
      rcases Nat.eq_zero_or_pos d with h | h
      · exact h
      · exact absurd ⟨h4, .inr h⟩ hgo
     have hu : U = 0 := hU0 (fun h => hgo ⟨h4, .inl h⟩)
     rw [hd0, hu, Nat.mul_zero]
   · obtain rfl : k = 4 := by omega
     have : d < 1 := hd
     show d + 1 * U = U
     omega
theorem digits_ok (x : Value) (n : Nat) (w : World) (hx : Dg w x (digs n)) (hl : (digs n).length < 100000000) : Calls Tryz.prog 125 #[x] w (fun e w' => e = .returned (je (cr n)) ∧ Below w.heap.size w w') := by
 have hx9 := hx.one
 refine calls_v1 (nt := 46) (f := 125) Tryz.func125 (c := .seq (cI b_dig) (.seq (cI (cq b_dig)) (.seq (cI (cq (cq b_dig))) (.seq (.seq (cI (cI (cq (cq (cq b_dig))))) (.block 0 (.loop lo_dig))) (cq (cq (cq (cq b_dig)))))))) rfl rfl rfl x (fun a hs => ?_)
 have one1 : ∀ v ∈ [x], v.oneCell' = true := cg hx9 cR
 refine wp_seq (cZ (T := []) [(0, 0)] [(0, 0)] (n := 30) (x := .normal) one1 ce hs (by kernel_rfl) rfl rfl (fun a1 w1 hs hb => ?_))
 have hs : kl 46 [x, ii ((digs n).length : Int)] [(0, 0)] a1 := ⟨hs.defers, hs.size, hs.sl⟩
 have one2 : ∀ v ∈ [x, ii ((digs n).length : Int)], v.oneCell' = true := cg hx9 (cg rfl cR)
 have hT : ∀ b, decide ((digs n).length = 0) = b → ∀ t ∈ [(⟨.blt .len [31] 3, [op 0], .val (op 1)⟩ : cW), ⟨.bin .eql 3, [op 1, vp (ii 0)], .val (vp (.bool b))⟩], t.Valid (CV 46 [x, ii ((digs n).length : Int)] w1) := fun b h =>
  ca (e_len cU (pdW rfl (hx.below hb (Nat.le_refl _))) (kn rfl)) (ca (e_eql (jj rfl) jR (by rw [← h]; congr 1; apply propext; omega)) ce)
 by_cases h0 : n = 0
 · have h00 : (digs n).length = 0 := by rw [h0, digs_zero]; rfl
   refine wp_seq (seg_vl [(0, 0)] [] [(2, je [48])] (n := 30) (x := .ret) one2 (hT true (decide_eq_true h00)) hs (by kernel_rfl) rfl rfl (fun a2 w2 hs hl2 hb2 => ?_))
   refine then_ret (ret_v rfl hs.defers hl2.1 ⟨?_, hb.trans (hb2.mono hb.size)⟩)
   rw [h0]
   rfl
 have hpos := digs_pos_len.2 h0
 refine wp_seq (cZ [(0, 0)] [(0, 0)] (n := 30) (x := .normal) one2 (hT false (decide_eq_false (by omega))) hs (by kernel_rfl) rfl rfl (fun a2 w2 hs hb2 => ?_))
 have hb := hb.trans (hb2.mono hb.size)
 refine wp_seq (seg_vl (T := []) [(0, 0)] [(0, 0)] [(3, je [])] (n := 30) (x := .normal) one2 ce hs (by kernel_rfl) rfl rfl (fun a3 w3 hs hl3 hb3 => ?_))
 have hb := hb.trans (hb3.mono hb.size)
 have hs : kl 46 [x, je []] [(0, 0), (3, 1)] a3 := ⟨hs.defers, hs.size, hs.sl.1, hl3.1, trivial⟩
 have one3 : ∀ v ∈ [x, je []], v.oneCell' = true := cg hx9 (cg rfl cR)
 refine wp_seq (wp_seq (seg_vl (T := []) [(0, 0), (3, 1)] [(0, 0), (3, 1)] [(4, ii 0)] (n := 30) (x := .normal) one3 ce hs (by kernel_rfl) rfl rfl (fun a4 w4 hs hl4 hb4 => ?_)))
 have hb := hb.trans (hb4.mono hb.size)
 have hs : kl 46 (vl_dig x (digs n) 0 0 0 (sof [])) [(0, 0), (3, 4), (4, 1)] a4 := ⟨hs.defers, hs.size, hs.sl.1, hs.sl.2.1, hl4.1, trivial⟩
 refine jz (Θ := Nat × List Nat) (fun θ a w1 => θ.1 ≤ (digs n).length ∧ Lim.digs n = θ.2 ++ Lim.digs (cG ((digs n).drop θ.1)) ∧ kl 46 (vl_dig x (digs n) θ.1 0 0 (sof θ.2)) [(0, 0), (3, 4), (4, 1)] a ∧ Below w.heap.size w w1) (fun θ => (digs n).length - θ.1) ?_ (0, []) ⟨Nat.zero_le _, by rw [List.drop_zero, cw]; rfl, hs, hb⟩
 rintro ⟨i, pre⟩ a w1 ⟨hi, hdig, hs, hb⟩
 have hi : i ≤ (digs n).length := hi
 have hdig : Lim.digs n = pre ++ Lim.digs (cG ((digs n).drop i)) := hdig
 have hx1 := hx.below hb (Nat.le_refl _)
 by_cases hend : i < (digs n).length
 · refine wp_seq (cZ [(0, 0), (3, 4), (4, 1)] [(0, 0), (3, 4), (4, 1)] (n := 30) (x := .normal) (dig_one hx9 (digs n) i 0 0 (sof pre)) (dig_L hx1 (by omega) (decide_eq_true hend)) hs (by kernel_rfl) rfl rfl (fun a5 w5 hs hb5 => ?_))
   have hb := hb.trans (hb5.mono hb.size)
   refine wp_seq (wp_block (wp_seq (cZ [(0, 0), (3, 4), (4, 1)] [(0, 0), (3, 4), (4, 1), (5, 8)] (n := 30) (x := .normal) (dig_one hx9 (digs n) i 0 0 (sof pre)) (dig_R (hx.below hb (Nat.le_refl _)) hend) hs (by kernel_rfl) rfl rfl (fun a6 w6 hs hb6 => ?_))))
   have hb := hb.trans (hb6.mono hb.size)
   refine wp_seq (seg_vl (T := []) [(0, 0), (3, 4), (4, 1), (5, 8)] [(0, 0), (3, 4), (4, 1), (5, 8)] [(6, ii 0)] (n := 30) (x := .normal) (dig_one hx9 (digs n) i 0 0 (sof pre)) ce hs (by kernel_rfl) rfl rfl (fun a7 w7 hs hl7 hb7 => ?_))
   have hb := hb.trans (hb7.mono hb.size)
   have hs : kl 46 (vl_dig x (digs n) i ((digs n).getD i 0) 0 (sof pre)) [(0, 0), (3, 4), (4, 1), (5, 2), (6, 3)] a7 := ⟨hs.defers, hs.size, hs.sl.1, hs.sl.2.1, hs.sl.2.2.1, hs.sl.2.2.2.1, hl7.1, trivial⟩
   refine dig_inner x n i hend hl pre (by rw [hdig, nat_drop]) a7 w7 (hx.below hb (Nat.le_refl _)) hs (fun a8 w8 pre' hdig' hs hb8 => ?_)
   have hb := hb.trans (hb8.mono hb.size)
   show (cq (cq lo_dig)).wp Tryz.prog _ _ _
   refine cZ [(0, 0), (3, 4), (4, 1)] [(0, 0), (3, 4), (4, 16)] (n := 30) (x := .normal) (dig_one hx9 (digs n) i 0 0 (sof pre')) (dig_L (hx.below hb (Nat.le_refl _)) (by omega) (decide_eq_true hend)) hs (by kernel_rfl) rfl rfl (fun a9 w9 hs hb9 => ?_)
   have hb := hb.trans (hb9.mono hb.size)
   exact ⟨(i + 1, pre'), ⟨hend, hdig', ⟨hs.defers, hs.size, hs.sl⟩, hb⟩, by show (digs n).length - (i + 1) < (digs n).length - i; omega⟩
 · refine wp_seq (cZ [(0, 0), (3, 4), (4, 1)] [(0, 0), (3, 4), (4, 1)] (n := 30) (x := .exit 0) (dig_one hx9 (digs n) i 0 0 (sof pre)) (dig_L hx1 (by omega) (decide_eq_false hend)) hs (by kernel_rfl) rfl rfl (fun a5 w5 hs hb5 => ?_))
   have hb := hb.trans (hb5.mono hb.size)
   refine cZ (T := []) [(0, 0), (3, 4), (4, 1)] [(2, 4)] (n := 30) (x := .ret) (dig_one hx9 (digs n) i 0 0 (sof pre)) ce hs (by kernel_rfl) rfl rfl (fun a6 w6 hs hb6 => ret_v rfl hs.defers hs.sl.1 ⟨?_, hb.trans (hb6.mono hb.size)⟩)
   rw [kf (by omega), Lim.digs_zero, List.append_nil] at hdig
   show Ending.returned (je (sof pre)) = _
   unfold cr sof
   rw [if_neg h0, hdig]
end Sym
open Go Go.RowKit Go.Proofs Lim
namespace Sym
section
variable {csz : List Nat} {numc : List Bool} {okT : List Nat} {nt : Nat} {cl : List Cl} {w0 : World} {w : World} {v z : Value} {p1 p2 p3 p4 : jQ} {res : RPat} {c d c1 c2 c3 c4 c5 c6 : Nat} {a b l : List UInt8}
theorem e_digits {n : Nat} (hl : (digs n).length < 100000000) (h1 : PD csz numc okT nt cl w0 p1 (digs n)) (h3 : RV csz numc okT nt cl w0 res (je (cr n))) : V csz numc okT nt cl w0 (.call 125) [p1] res := by
 refine ⟨enters_of Tryz.func125 (by kernel_rfl) rfl, fun w vs hb hvs => ?_⟩
 obtain ⟨v1, _, rfl, h4, rfl⟩ := hvs
 refine (digits_ok v1 n w (h1 _ _ hb h4) hl).mono ?_
 rintro e w' ⟨rfl, hb⟩
 exact ⟨_, rfl, h3 w', hb⟩
end
def rtext (s : Bool) (m k : Nat) : List UInt8 := (if s then [45] else []) ++ cr m ++ (if k = 1 then [] else 47 :: cr k)
theorem rtext_q (r : Rat) : rtext (decide (r.num < 0)) r.num.natAbs r.den = jv r := by
 unfold rtext jv
 by_cases h : r.num < 0 <;> simp [h]
theorem ntext_len4 (n : Nat) : (cr n).length ≤ 4 * (digs n).length + 1 := by
 have := digs10_len n
 unfold cr
 split
 · simp
 · simp; omega
abbrev cl_text (m k : Nat) (a b : List UInt8) : List Cl := [ko (digs m), ko (digs k), jm (je (cr m)), jm (je b), ko (digs 1), jm (je (a ++ [47])), jm (je (cr k)), jm (je ((a ++ [47]) ++ cr k))]
noncomputable abbrev C_text (m k : Nat) (a b : List UInt8) (w : World) : Ctx := mkC [1, 1, 1, 1, 1, 1, 1, 1] [false, false, true, true, false, true, true, true] [33] 23 (cl_text m k a b) w
theorem jD {okT : List Nat} {B : Nat} (a : List UInt8) : (jm (je a)).Ok okT B := clV_ok rfl
theorem text_C (m k : Nat) (a b : List UInt8) (w : World) : (C_text m k a b w).Ok := cL (cb (cF jx _) (cb (cF jx _) (cb (jD _) (cb (jD _) (cb (cF jx _) (cb (jD _) (cb (jD _) (cb (jD _) cD)))))))) rfl rfl
def t_text (i : Int) (c : Nat) : List cW := [⟨.call 125, [op 0], .val (op 2)⟩, ⟨.bin .add 9, [vp (je [45]), op 2], .val (op 3)⟩, ⟨.bs 31 1, [vp (ii 1)], .val (op 4)⟩, ⟨.call 89, [op 1, op 4], .val (vp (ii i))⟩,
 ⟨.bin .add 9, [op c, vp (je [47])], .val (op 5)⟩, ⟨.call 125, [op 1], .val (op 6)⟩, ⟨.bin .add 9, [op 5, op 6], .val (op 7)⟩]
theorem text_T (m k : Nat) (a : List UInt8) (w : World) (h1 : (digs m).length < 10000000) (h2 : (digs k).length < 10000000) (ha : a.length < 100000000) {i : Int} (hi : cmpN k 1 = i) {c : Nat} (hc : (cl_text m k a ([45] ++ cr m))[c]? = some (jm (je a))) : ∀ t ∈ t_text i c, t.Valid (C_text m k a ([45] ++ cr m) w) := by
 have l1 := ntext_len4 m
 have l2 := ntext_len4 k
 exact ca (e_digits (by omega) (pd rfl) (rv rfl)) (ca (e_cat (by simp; omega) jR (pv rfl) (rv rfl)) (ca (e_bs1 (x := 1) jR (rd (by rw [← digs_one]; rfl))) (ca (e_order (ds := digs k) (es := digs 1) (pd rfl) (pd rfl) (cJ _) (cJ _) (by rw [cw, cw, hi]; exact rvl))
  (ca (e_cat (by simp; omega) (pv hc) jR (rv rfl)) (ca (e_digits (by omega) (pd rfl) (rv rfl)) (ca (e_cat (by simp; omega) (pv rfl) (pv rfl) (rv rfl)) ce))))))
theorem text_ok (s : Bool) (x : Value) (m k : Nat) (w : World) (hx : RatP w x s m k) (hk : 0 < k) (h1 : (digs m).length < 10000000) (h2 : (digs k).length < 10000000) : Calls Tryz.prog 83 #[x] w (Go.Proofs.YtccabfblgjcboaaGreatDoor.Val w (je (rtext s m k))) := by
 have l1 := ntext_len4 m
 have ci : k = 1 ∨ cmpN k 1 = 1 := by
  rcases Nat.lt_or_ge 1 k with h | h
  · right; unfold cmpN; rw [if_neg (by omega), if_pos (by omega)]
  · left; omega
 have c0 : cmpN 1 1 = 0 := rfl
 cases s with
 | false =>
  have hv : ∀ a, jE (C_text m k a ([45] ++ cr m) w) w [rl false 0 1] [x] := fun a => ⟨_, _, rfl, (rl_is2 rfl rfl).2 hx, rfl⟩
  rcases ci with rfl | hi
  · refine (cM (text_C _ _ _ _ _) (text_T m 1 (cr m) w h1 h2 (by omega) c0 (c := 2) rfl) 83 Tryz.f83 [rl false 0 1] (.val (op 2)) 60 Tryz.func83 rfl rfl rfl (by kernel_rfl) [x] (hv _)).mono ?_
    rintro e w' ⟨v, rfl, hv, hb⟩
    rw [(jA (x := je (cr m)) rfl).1 hv]
    exact ⟨by simp [rtext], hb⟩
  · have hk1 : k ≠ 1 := by rintro rfl; rw [c0] at hi; cases hi
    refine (cM (text_C _ _ _ _ _) (text_T m k (cr m) w h1 h2 (by omega) hi (c := 2) rfl) 83 Tryz.f83 [rl false 0 1] (.val (op 7)) 60 Tryz.func83 rfl rfl rfl (by kernel_rfl) [x] (hv _)).mono ?_
    rintro e w' ⟨v, rfl, hv, hb⟩
    rw [(jA (x := je ((cr m ++ [47]) ++ cr k)) rfl).1 hv]
    exact ⟨by simp [rtext, hk1], hb⟩
 | true =>
  have hv : ∀ a, jE (C_text m k a ([45] ++ cr m) w) w [rl true 0 1] [x] := fun a => ⟨_, _, rfl, (rl_is2 rfl rfl).2 hx, rfl⟩
  rcases ci with rfl | hi
  · refine (cM (text_C _ _ _ _ _) (text_T m 1 ([45] ++ cr m) w h1 h2 (by simp; omega) c0 (c := 3) rfl) 83 Tryz.f83 [rl true 0 1] (.val (op 3)) 60 Tryz.func83 rfl rfl rfl (by kernel_rfl) [x] (hv _)).mono ?_
    rintro e w' ⟨v, rfl, hv, hb⟩
    rw [(jA (x := je ([45] ++ cr m)) rfl).1 hv]
    exact ⟨by simp [rtext], hb⟩
  · have hk1 : k ≠ 1 := by rintro rfl; rw [c0] at hi; cases hi
    refine (cM (text_C _ _ _ _ _) (text_T m k ([45] ++ cr m) w h1 h2 (by simp; omega) hi (c := 3) rfl) 83 Tryz.f83 [rl true 0 1] (.val (op 7)) 60 Tryz.func83 rfl rfl rfl (by kernel_rfl) [x] (hv _)).mono ?_
    rintro e w' ⟨v, rfl, hv, hb⟩
    rw [(jA (x := je ((([45] ++ cr m) ++ [47]) ++ cr k)) rfl).1 hv]
    exact ⟨by simp [rtext, hk1], hb⟩
theorem rtext_ok (x : Value) (r : Rat) (k : Nat) (w : World) (hx : RQ w x r) (z : cB r k) (hk : k ≤ 1000000) : Calls Tryz.prog 83 #[x] w (Go.Proofs.YtccabfblgjcboaaGreatDoor.Val w (je (jv r))) := by
 have l1 := jl z.1
 have l2 := jl z.2
 rw [← rtext_q]
 exact text_ok _ x _ _ w hx r.den_pos (by omega) (by omega)
end Sym
open Go Go.RowKit Go.Proofs Lim
namespace Sym
section
variable {csz : List Nat} {numc : List Bool} {okT : List Nat} {cl : List Cl} {w0 : World} {w : World} {p4 p5 : jQ} {s : Bool} {m k : Nat} {n i : Value} {a : Act} {r : Rat} {c d : Nat}
end
end Sym
open Go Go.RowKit Go.Proofs Lim
theorem qtext_inj {r s : Rat} (h : jv r = jv s) : r = s := by
 have nd : ∀ {c : UInt8}, jC c = true → c ≠ 45 ∧ c ≠ 47 := by
  intro c hc
  constructor <;> (rintro rfl; revert hc; decide)
 have hh : ∀ (n : Nat) (l : List UInt8), (cr n ++ l).head? ≠ some 45 := by
  intro n l e
  cases hn : cr n with
  | nil => exact ntext_ne n hn
  | cons c t =>
   rw [hn] at e
   have : c = 45 := by simpa using e
   exact (nd (ntext_dig n c (by rw [hn]; simp))).1 this
 have cut : ∀ (l m a b : List UInt8), (∀ c ∈ l, c ≠ 47) → (∀ c ∈ m, c ≠ 47) → (a = [] ∨ a.head? = some 47) → (b = [] ∨ b.head? = some 47) → l ++ a = m ++ b → l = m ∧ a = b := by
  intro l
  induction l with
  | nil =>
   intro m a b _ hm ha hb e
   cases m with
   | nil => exact ⟨rfl, e⟩
   | cons c m =>
    exfalso
    have e : a = c :: (m ++ b) := e
    rcases ha with rfl | ha
    · cases e
    · rw [e] at ha
      have : c = 47 := by simpa using ha
      exact hm c (by simp) this
  | cons c l ih =>
   intro m a b hl hm ha hb e
   cases m with
   | nil =>
    exfalso
    have e : c :: (l ++ a) = b := e
    rcases hb with rfl | hb
    · cases e
    · rw [← e] at hb
      have : c = 47 := by simpa using hb
      exact hl c (by simp) this
   | cons d m =>
    have e : c :: (l ++ a) = d :: (m ++ b) := e
    injection e with e1 e2
    obtain ⟨q1, q2⟩ := ih m a b (fun x hx => hl x (by simp [hx])) (fun x hx => hm x (by simp [hx])) ha hb e2
    exact ⟨by rw [e1, q1], q2⟩
 have tl : ∀ d : Nat, (if d = 1 then ([] : List UInt8) else 47 :: cr d) = [] ∨ (if d = 1 then ([] : List UInt8) else 47 :: cr d).head? = some 47 := by
  intro d
  split
  · exact .inl rfl
  · exact .inr rfl
 have key : ∀ (a b : Rat), cr a.num.natAbs ++ (if a.den = 1 then [] else 47 :: cr a.den) = cr b.num.natAbs ++ (if b.den = 1 then [] else 47 :: cr b.den) → a.num.natAbs = b.num.natAbs ∧ a.den = b.den := by
  intro a b e
  obtain ⟨e1, e2⟩ := cut _ _ _ _ (fun c hc => (nd (ntext_dig _ c hc)).2) (fun c hc => (nd (ntext_dig _ c hc)).2) (tl a.den) (tl b.den) e
  refine ⟨ntext_inj e1, ?_⟩
  split at e2 <;> split at e2
  · omega
  · cases e2
  · cases e2
  · injection e2 with _ e2
    exact ntext_inj e2
 unfold jv at h
 rw [List.append_assoc, List.append_assoc] at h
 by_cases h1 : r.num < 0 <;> by_cases h2 : s.num < 0
 · rw [if_pos h1, if_pos h2] at h
   obtain ⟨q1, q2⟩ := key r s (List.append_cancel_left h)
   exact Rat.ext (by omega) q2
 · rw [if_pos h1, if_neg h2] at h
   exact absurd (congrArg List.head? h).symm (hh _ _)
 · rw [if_neg h1, if_pos h2] at h
   exact absurd (congrArg List.head? h) (hh _ _)
 · rw [if_neg h1, if_neg h2] at h
   obtain ⟨q1, q2⟩ := key r s h
   exact Rat.ext (by omega) q2
namespace Sym
section
variable {csz : List Nat} {numc : List Bool} {okT : List Nat} {nt : Nat} {cl : List Cl} {w0 : World} {w : World} {v z : Value} {p1 p2 p3 p4 : jQ} {res : RPat} {c d c1 c2 c3 c4 c5 c6 : Nat} {a b l : List UInt8} {r s : Rat} {k k1 k2 : Nat}
theorem e_eqs {e : Bool} (h1 : PV csz numc okT nt cl w0 p1 (je a)) (h2 : PV csz numc okT nt cl w0 p2 (je b)) (he : decide (a = b) = e) : V csz numc okT nt cl w0 (.bin .eql 9) [p1, p2] (.val (vp (.bool e))) := by
 intro w ρ oo xs ho hb hvs
 obtain ⟨x, y, u, hop, rfl⟩ := hd_bin ho
 obtain ⟨v1, _, e1, h4, v2, _, e2, h5, e3⟩ := hvs
 obtain rfl := h1 _ _ h4
 obtain rfl := h2 _ _ h5
 subst e2
 simp only [List.map_cons, List.map_nil, List.cons.injEq] at e1
 obtain ⟨ea, eb, _⟩ := e1
 refine ⟨_, w, ?_, vp_r _ _ _, Below.refl _ _⟩
 show (execOp ρ oo).run Tryz.prog w = _
 have hg : (eqGuard .eql 9 x y (je a) (je b)).run Tryz.prog w = .ok () w := rfl
 have hbe : (a == b) = e := by
  rw [← he]
  by_cases h : a = b
  · subst h; simp
  · simp [h]
 have hr : (Go.binOp .eql 9 (je a) (je b)).run Tryz.prog w = .ok (.bool e) w := by
  show (Op.stringOp .eql ⟨a.toArray⟩ ⟨b.toArray⟩).run Tryz.prog w = _
  unfold Op.stringOp
  simp only [ByteArray.toList_eq]
  show Result.ok (Value.bool (a == b)) w = _
  rw [hbe]
 simp only [execOp, hop, ea, eb, Sem.run_bind, hg, hr, Result.andThen_ok]
 rfl
theorem e_text (h1 : PQ csz numc okT nt cl w0 p1 r k) (hk : k ≤ 1000000) (h3 : RV csz numc okT nt cl w0 res (je (jv r))) : V csz numc okT nt cl w0 (.call 14) [p1] res := by
 refine ⟨enters_of Tryz.func14 (by kernel_rfl) rfl, fun w vs hb hvs => ?_⟩
 obtain ⟨v1, _, rfl, h4, rfl⟩ := hvs
 have h4 := h1 _ _ h4
 refine (text_q v1 r k w h4.1 h4.2 (by omega)).mono ?_
 rintro e w' ⟨rfl, hb⟩
 exact ⟨_, rfl, h3 w', hb⟩
theorem e_rtext (h1 : PR csz numc okT nt cl w0 p1 r k) (hk : k ≤ 1000000) (h3 : RV csz numc okT nt cl w0 res (je (jv r))) : V csz numc okT nt cl w0 (.call 83) [p1] res := by
 refine ⟨enters_of Tryz.func83 (by kernel_rfl) rfl, fun w vs hb hvs => ?_⟩
 obtain ⟨v1, _, rfl, h4, rfl⟩ := hvs
 have h4 := h1 _ _ h4
 refine (rtext_ok v1 r k w h4.1 h4.2 hk).mono ?_
 rintro e w' ⟨rfl, hb⟩
 exact ⟨_, rfl, h3 w', hb⟩
end
theorem qrT : (∀ t ∈ [26, 33], t ≠ 23) ∧ (∀ t ∈ [26, 33], t ≠ 3) := by decide
theorem same_ok (x y : Value) (r s : Rat) (k : Nat) (w : World) (hx : js w x r) (hy : RQ w y s) (z1 : cB r k) (z2 : cB s k) (hk : k ≤ 1000000) : Calls Tryz.prog 13 #[x, y] w (Go.Proofs.YtccabfblgjcboaaGreatDoor.Val w (.bool (decide (r = s)))) := by
 have hC : (mkC [4, 3, 1, 1] [true, true, true, true] [26, 33] 10 [clQ r k, cN s k, jm (je (jv r)), jm (je (jv s))] w).Ok := cL (cb (clQ_ok qrT.1 _ _) (cb (co qrT.2 _ _) (cb (jD _) (cb (jD _) cD)))) rfl rfl
 have hT : ∀ e, decide (r = s) = e → ∀ t ∈ ([⟨.call 14, [qp 0], .val (op 2)⟩, ⟨.call 83, [rq 1], .val (op 3)⟩, ⟨.bin .eql 9, [op 2, op 3], .val (vp (.bool e))⟩] : List cW), t.Valid (mkC [4, 3, 1, 1] [true, true, true, true] [26, 33] 10 [clQ r k, cN s k, jm (je (jv r)), jm (je (jv s))] w) := fun e he =>
  ca (e_text (pq rfl) hk (rv rfl)) (ca (e_rtext (pr rfl) hk (rv rfl)) (ca (e_eqs (pv rfl) (pv rfl) (by rw [← he]; congr 1; exact propext ⟨fun h => qtext_inj h, fun h => by rw [h]⟩)) ce))
 have hv : jE (mkC [4, 3, 1, 1] [true, true, true, true] [26, 33] 10 [clQ r k, cN s k, jm (je (jv r)), jm (je (jv s))] w) w [qp 0, rq 1] [x, y] := ⟨_, _, rfl, (qp_is rfl).2 ⟨hx, z1⟩, _, _, rfl, (ji rfl).2 ⟨hy, z2⟩, rfl⟩
 cases he : decide (r = s) with
 | true =>
  refine (cM hC (hT _ he) 13 Tryz.f13 [qp 0, rq 1] (.val (vp (.bool true))) 60 Tryz.func13 rfl rfl rfl (by kernel_rfl) [x, y] hv).mono ?_
  rintro e w' ⟨v, rfl, hv, hb⟩
  rw [val_of hv]
  exact ⟨rfl, hb⟩
 | false =>
  refine (cM hC (hT _ he) 13 Tryz.f13 [qp 0, rq 1] (.val (vp (.bool false))) 60 Tryz.func13 rfl rfl rfl (by kernel_rfl) [x, y] hv).mono ?_
  rintro e w' ⟨v, rfl, hv, hb⟩
  rw [val_of hv]
  exact ⟨rfl, hb⟩
section
variable {csz : List Nat} {numc : List Bool} {okT : List Nat} {nt : Nat} {cl : List Cl} {w0 : World} {w : World} {v z : Value} {p1 p2 p3 p4 : jQ} {res : RPat} {c d c1 c2 c3 c4 c5 c6 : Nat} {a b l : List UInt8} {r s : Rat} {k k1 k2 : Nat}
theorem e_same {e : Bool} (h1 : PQ csz numc okT nt cl w0 p1 r k1) (h2 : PR csz numc okT nt cl w0 p2 s k2) (hk : fits (k1 + k2) 1000000 = true) (he : decide (r = s) = e) : V csz numc okT nt cl w0 (.call 13) [p1, p2] (.val (vp (.bool e))) := by
 subst he
 have hk := fits_le hk
 refine ⟨enters_of Tryz.func13 (by kernel_rfl) rfl, fun w vs hb hvs => ?_⟩
 obtain ⟨v1, _, rfl, h4, v2, _, rfl, h5, rfl⟩ := hvs
 have h4 := h1 _ _ h4
 have h5 := h2 _ _ h5
 refine (same_ok v1 v2 r s (k1 + k2) w h4.1 h5.1 (h4.2.le (by omega)) (h5.2.le (by omega)) (by omega)).mono ?_
 rintro e w' ⟨rfl, hb'⟩
 exact ⟨_, rfl, vp_r _ _ _, hb'⟩
end
end Sym
end Go.Proofs.YtccabfblgjcboaaGreatDoor
