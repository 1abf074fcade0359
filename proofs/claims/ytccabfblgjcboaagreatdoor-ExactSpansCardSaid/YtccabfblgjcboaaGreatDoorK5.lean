/- Package exact, part 5: what its functions answer, as laws on the numbers that their values stand for (RefS RefT RefD RefU RefI RefSame RefN RefRead LawReads ClsSp LawArith RefP RefL RefSpans SpRuns RefLawSp SpEq). -/
import Derived.Test.YtccabfblgjcboaaGreatDoorK4
import Derived.Laws.IdiomStrings
import Derived.Laws.Strings3
import Derived.Great.BuildSlice
set_option linter.unusedVariables false
set_option linter.unusedSimpArgs false

namespace Go.Proofs.YtccabfblgjcboaaGreatDoor
open Go Go.RowKit Go.Proofs Lim
namespace Sym
theorem fitr_mk {n k : Nat} (h1 : n ≤ k) (h2 : k ≤ 100000) : fitr n k = true := by
  simp only [fitr, Bool.and_eq_true]
  exact ⟨Nat.ble_eq_true_of_le h1, Nat.ble_eq_true_of_le h2⟩
theorem rsub_q (x y : Value) (r s : Rat) (k : Nat) (w : World) (hx : RQ w x r) (hy : RQ w y s) (z1 : Siz r k) (z2 : Siz s k) (hk : k + k + 1 ≤ 100000) : Calls Tryz.prog 28 #[x, y] w (RNew w (r - s)) := by
  have hC : (mkC [3, 3, 3, 3] [true, true, true, true] [33] 9 [clR r k, clR s k, clR (-s) k, clR (r + -s) (k + k + 1)] w).Ok := mkC_ok (oks_cons (clR_ok ratT _ _) (oks_cons (clR_ok ratT _ _) (oks_cons (clR_ok ratT _ _) (oks_cons (clR_ok ratT _ _) oks_nil)))) rfl rfl
  have hT : ∀ t ∈ ([⟨.call 38, [rq 1], .val (rq 2)⟩, ⟨.call 26, [rq 0, rq 2], .val (rq 3)⟩] : List Ent), t.Valid (mkC [3, 3, 3, 3] [true, true, true, true] [33] 9 [clR r k, clR s k, clR (-s) k, clR (r + -s) (k + k + 1)] w) :=
    forall_cons (e_rneg (pr rfl) rfl (fitr_mk (Nat.le_refl _) (by omega))) (forall_cons (e_radd (pr rfl) (pr rfl) rfl (fitr_mk (Nat.le_refl _) hk)) forall_nil)
  refine (run_mk hC hT 28 Tryz.f28 [rq 0, rq 1] (.val (rq 3)) 60 Tryz.func28 rfl rfl rfl (by kernel_rfl) [x, y] ⟨_, _, rfl, (rq_is rfl).2 ⟨hx, z1⟩, _, _, rfl, (rq_is rfl).2 ⟨hy, z2⟩, rfl⟩).mono ?_
  rintro e w' ⟨v, rfl, hv, hb⟩
  refine ⟨v, rfl, ?_, hb⟩
  rw [Rat.sub_eq_add_neg]
  exact ((rq_is rfl).1 hv).1
section
variable {csz : List Nat} {numc : List Bool} {okT : List Nat} {nt : Nat} {cl : List Cl} {w0 : World} {w : World} {v : Value} {p1 p2 p3 p4 : Pat} {res : RPat} {c d c1 c2 c3 c4 c5 c6 : Nat} {r s t r1 r2 r3 r4 : Rat} {k k1 k2 k3 k4 k5 k6 : Nat}
theorem e_rsub (h1 : PR csz numc okT nt cl w0 p1 r k1) (h2 : PR csz numc okT nt cl w0 p2 s k2) (h3 : cl[c3]? = some (clR (r - s) k3)) (hk : fitr (k1 + k2 + 1) k3 = true) (hk' : fitr k3 40000 = true) : V csz numc okT nt cl w0 (.call 28) [p1, p2] (.val (rq c3)) := by
  have hk := fitr_le hk
  have hk' := fitr_le hk'
  exact ent_rrr (enters_of Tryz.func28 (by kernel_rfl) rfl) h1 h2 h3 (fun z1 z2 => (z1.sub z2).le (by omega)) (fun W v1 v2 q1 z1 q2 z2 => rsub_q v1 v2 r s k3 W q1 q2 (z1.le (by omega)) (z2.le (by omega)) (by omega))
end
def t_sign : List Ent := [⟨.blt .len [31] 3, [op 0], .val (op 2)⟩, ⟨.blt .min [3, 3] 3, [op 2, vp (ii 1)], .val (op 3)⟩]
abbrev cl_sign (a b : Nat) : List Cl := [clD (digs a), clD (digs b), clV (ii ((digs a).length : Int)), clV (ii (if (1 : Int) < ((digs a).length : Int) then 1 else ((digs a).length : Int)))]
noncomputable abbrev C_sign (a b : Nat) (w : World) : Ctx := mkC [1, 1, 1, 1] [false, false, true, true] [33] 9 (cl_sign a b) w
theorem rl_isS {a b : Nat} {w0 w : World} {v : Value} {s : Bool} : (Pat.agg [.lit (.bool s), .cls 0 1, .cls 1 1]).is (C_sign a b w0) w v ↔ RatP w v s a b := by
  constructor
  · rintro ⟨vs, ⟨xs, ys, rfl, rfl, xs2, ys2, rfl, ⟨f, hE, rfl⟩, xs3, ys3, rfl, ⟨g, hE', rfl⟩, h5⟩, rfl⟩
    rw [show ys3 = [] from h5]
    exact ⟨f 0, g 0, by simp [List.range_succ], hE, hE'⟩
  · rintro ⟨x, y, rfl, ha, hb⟩
    exact ⟨[.bool s, x, y], ⟨[.bool s], [x, y], rfl, rfl, [x], [y], rfl, ⟨fun _ => x, ha, rfl⟩, [y], [], rfl, ⟨fun _ => y, hb, rfl⟩, rfl⟩, rfl⟩
theorem rsign_q (x : Value) (r : Rat) (w : World) (hx : RQ w x r) : Calls Tryz.prog 33 #[x] w (Go.Proofs.YtccabfblgjcboaaGreatDoor.Val w (.int .i64 (sign r))) := by
  have hC : (C_sign r.num.natAbs r.den w).Ok := mkC_ok (oks_cons (clD_ok ratT _) (oks_cons (clD_ok ratT _) (oks_cons (clVi_ok _) (oks_cons (clVi_ok _) oks_nil)))) rfl rfl
  have hT : ∀ t ∈ t_sign, t.Valid (C_sign r.num.natAbs r.den w) := forall_cons (e_len und_nat (pd rfl) (rv rfl)) (forall_cons (e_min (pv rfl) pvl (rv rfl)) forall_nil)
  have hx : RatP w x (decide (r.num < 0)) r.num.natAbs r.den := hx
  by_cases h : r.num < 0
  · rw [decide_eq_true h] at hx
    refine (run_mk hC hT 33 Tryz.f33 [.agg [.lit (.bool true), .cls 0 1, .cls 1 1]] (.val (vp (ii (-1)))) 60 Tryz.func33 rfl rfl rfl (by kernel_rfl) [x] ⟨_, _, rfl, rl_isS.2 hx, rfl⟩).mono ?_
    rintro e w' ⟨v, rfl, hv, hb⟩
    rw [val_of hv]
    have : sign r = -1 := by unfold sign; rw [if_neg (by omega), if_pos h]
    exact ⟨by rw [this], hb⟩
  · rw [decide_eq_false h] at hx
    refine (run_mk hC hT 33 Tryz.f33 [.agg [.lit (.bool false), .cls 0 1, .cls 1 1]] (.val (op 3)) 60 Tryz.func33 rfl rfl rfl (by kernel_rfl) [x] ⟨_, _, rfl, rl_isS.2 hx, rfl⟩).mono ?_
    rintro e w' ⟨v, rfl, hv, hb⟩
    rw [(op_is rfl).1 hv]
    refine ⟨?_, hb⟩
    congr 2
    have := digs_pos_len (n := r.num.natAbs)
    unfold sign
    rw [if_neg h]
    by_cases h0 : r.num = 0
    · rw [if_pos h0, h0]
      have : (digs (Int.natAbs 0)).length = 0 := by rw [show Int.natAbs 0 = 0 from rfl, digs_zero]; rfl
      rw [this]; rfl
    · rw [if_neg h0]
      have : 0 < (digs r.num.natAbs).length := this.2 (by omega)
      split <;> omega
theorem sign_sub (r s : Rat) : sign (r - s) = cmpQ r s := by
  have h1 : (r - s).num = 0 ↔ r - s = 0 := Rat.num_eq_zero
  have h2 : 0 ≤ (r - s).num ↔ 0 ≤ r - s := Rat.num_nonneg
  unfold sign cmpQ
  by_cases a : r < s
  · have e1 : ¬ r - s = 0 := by grind
    have e2 : ¬ 0 ≤ r - s := by grind
    have e3 : ¬ (r - s).num = 0 := fun h => e1 (h1.1 h)
    have e4 : (r - s).num < 0 := Int.not_le.1 (fun h => e2 (h2.1 h))
    rw [if_neg e3, if_pos e4, if_pos a]
  · rw [if_neg a]
    have e2 : 0 ≤ r - s := by grind
    have e4 : ¬ (r - s).num < 0 := Int.not_lt.2 (h2.2 e2)
    by_cases b : s < r
    · have e1 : ¬ r - s = 0 := by grind
      rw [if_neg (fun h => e1 (h1.1 h)), if_neg e4, if_pos b]
    · have e1 : r - s = 0 := by grind
      rw [if_pos (h1.2 e1), if_neg b]
theorem rcmp_q (x y : Value) (r s : Rat) (k : Nat) (w : World) (hx : RQ w x r) (hy : RQ w y s) (z1 : Siz r k) (z2 : Siz s k) (hk : k ≤ 10000) : Calls Tryz.prog 32 #[x, y] w (Go.Proofs.YtccabfblgjcboaaGreatDoor.Val w (.int .i64 (cmpQ r s))) := by
  have hC : (mkC [3, 3, 3, 1] [true, true, true, true] [33] 9 [clR r k, clR s k, clR (r - s) (k + k + 1), clV (ii (sign (r - s)))] w).Ok := mkC_ok (oks_cons (clR_ok ratT _ _) (oks_cons (clR_ok ratT _ _) (oks_cons (clR_ok ratT _ _) (oks_cons (clVi_ok _) oks_nil)))) rfl rfl
  have hT : ∀ t ∈ ([⟨.call 28, [rq 0, rq 1], .val (rq 2)⟩, ⟨.call 33, [rq 2], .val (op 3)⟩] : List Ent), t.Valid (mkC [3, 3, 3, 1] [true, true, true, true] [33] 9 [clR r k, clR s k, clR (r - s) (k + k + 1), clV (ii (sign (r - s)))] w) := by
    refine forall_cons (e_rsub (pr rfl) (pr rfl) rfl (fitr_mk (Nat.le_refl _) (by omega)) (fitr_mk (by omega) (by decide))) (forall_cons ⟨enters_of Tryz.func33 (by kernel_rfl) rfl, fun w vs hb hvs => ?_⟩ forall_nil)
    obtain ⟨v1, _, rfl, h4, rfl⟩ := hvs
    refine (rsign_q v1 (r - s) w ((rq_is rfl).1 h4).1).mono ?_
    rintro e w' ⟨rfl, hb'⟩
    exact ⟨_, rfl, (op_is rfl).2 rfl, hb'⟩
  refine (run_mk hC hT 32 Tryz.f32 [rq 0, rq 1] (.val (op 3)) 60 Tryz.func32 rfl rfl rfl (by kernel_rfl) [x, y] ⟨_, _, rfl, (rq_is rfl).2 ⟨hx, z1⟩, _, _, rfl, (rq_is rfl).2 ⟨hy, z2⟩, rfl⟩).mono ?_
  rintro e w' ⟨v, rfl, hv, hb⟩
  rw [(op_is rfl).1 hv, ← sign_sub]
  exact ⟨rfl, hb⟩
section
variable {csz : List Nat} {numc : List Bool} {okT : List Nat} {nt : Nat} {cl : List Cl} {w0 : World} {w : World} {v : Value} {p1 p2 p3 p4 : Pat} {res : RPat} {c d c1 c2 c3 c4 c5 c6 : Nat} {r s t r1 r2 r3 r4 : Rat} {k k1 k2 k3 k4 k5 k6 : Nat}
theorem e_rcmp {x : Int} (h1 : PR csz numc okT nt cl w0 p1 r k1) (h2 : PR csz numc okT nt cl w0 p2 s k2) (hk : fitr (k1 + k2) 10000 = true) (h : cmpQ r s = x) : V csz numc okT nt cl w0 (.call 32) [p1, p2] (.val (vp (.int .i64 x))) := by
  subst h
  have hk := fitr_le hk
  exact ent_rrv (enters_of Tryz.func32 (by kernel_rfl) rfl) h1 h2 (fun W v1 v2 q1 z1 q2 z2 => rcmp_q v1 v2 r s (k1 + k2) W q1 q2 (z1.le (by omega)) (z2.le (by omega)) (by omega))
end
theorem cmpQ_cases (r s : Rat) : (cmpQ r s = -1 ∧ r < s) ∨ (cmpQ r s = 0 ∧ r = s) ∨ (cmpQ r s = 1 ∧ s < r) := by
  unfold cmpQ
  by_cases a : r < s
  · exact .inl ⟨if_pos a, a⟩
  · by_cases b : s < r
    · exact .inr (.inr ⟨by rw [if_neg a, if_pos b], b⟩)
    · exact .inr (.inl ⟨by rw [if_neg a, if_neg b], by grind⟩)
def minQ (r s : Rat) : Rat := if r ≤ s then r else s
def maxQ (r s : Rat) : Rat := if s ≤ r then r else s
theorem rmin_q (x y : Value) (r s : Rat) (k : Nat) (w : World) (hx : RQ w x r) (hy : RQ w y s) (z1 : Siz r k) (z2 : Siz s k) (hk : k ≤ 5000) : Calls Tryz.prog 106 #[x, y] w (RNew w (minQ r s)) := by
  have hC : (mkC [3, 3] [true, true] [33] 11 [clR r k, clR s k] w).Ok := mkC_ok (oks_cons (clR_ok ratT _ _) (oks_cons (clR_ok ratT _ _) oks_nil)) rfl rfl
  have hT : ∀ i, cmpQ r s = i → ∀ t ∈ ([⟨.call 32, [rq 0, rq 1], .val (vp (ii i))⟩] : List Ent), t.Valid (mkC [3, 3] [true, true] [33] 11 [clR r k, clR s k] w) := fun i hi => forall_cons (e_rcmp (pr rfl) (pr rfl) (fitr_mk (by omega) (by decide)) hi) forall_nil
  have hv : PatsAre (mkC [3, 3] [true, true] [33] 11 [clR r k, clR s k] w) w [rq 0, rq 1] [x, y] := ⟨_, _, rfl, (rq_is rfl).2 ⟨hx, z1⟩, _, _, rfl, (rq_is rfl).2 ⟨hy, z2⟩, rfl⟩
  unfold minQ
  rcases cmpQ_cases r s with ⟨h, g⟩ | ⟨h, g⟩ | ⟨h, g⟩
  · rw [if_pos (by grind)]
    refine (run_mk hC (hT _ h) 106 Tryz.f106 [rq 0, rq 1] (.val (rq 0)) 60 Tryz.func106 rfl rfl rfl (by kernel_rfl) [x, y] hv).mono ?_
    rintro e w' ⟨v, rfl, hv, hb⟩
    exact ⟨v, rfl, ((rq_is rfl).1 hv).1, hb⟩
  · rw [if_pos (by grind)]
    refine (run_mk hC (hT _ h) 106 Tryz.f106 [rq 0, rq 1] (.val (rq 0)) 60 Tryz.func106 rfl rfl rfl (by kernel_rfl) [x, y] hv).mono ?_
    rintro e w' ⟨v, rfl, hv, hb⟩
    exact ⟨v, rfl, ((rq_is rfl).1 hv).1, hb⟩
  · rw [if_neg (by grind)]
    refine (run_mk hC (hT _ h) 106 Tryz.f106 [rq 0, rq 1] (.val (rq 1)) 60 Tryz.func106 rfl rfl rfl (by kernel_rfl) [x, y] hv).mono ?_
    rintro e w' ⟨v, rfl, hv, hb⟩
    exact ⟨v, rfl, ((rq_is rfl).1 hv).1, hb⟩
theorem rmax_q (x y : Value) (r s : Rat) (k : Nat) (w : World) (hx : RQ w x r) (hy : RQ w y s) (z1 : Siz r k) (z2 : Siz s k) (hk : k ≤ 5000) : Calls Tryz.prog 107 #[x, y] w (RNew w (maxQ r s)) := by
  have hC : (mkC [3, 3] [true, true] [33] 11 [clR r k, clR s k] w).Ok := mkC_ok (oks_cons (clR_ok ratT _ _) (oks_cons (clR_ok ratT _ _) oks_nil)) rfl rfl
  have hT : ∀ i, cmpQ r s = i → ∀ t ∈ ([⟨.call 32, [rq 0, rq 1], .val (vp (ii i))⟩] : List Ent), t.Valid (mkC [3, 3] [true, true] [33] 11 [clR r k, clR s k] w) := fun i hi => forall_cons (e_rcmp (pr rfl) (pr rfl) (fitr_mk (by omega) (by decide)) hi) forall_nil
  have hv : PatsAre (mkC [3, 3] [true, true] [33] 11 [clR r k, clR s k] w) w [rq 0, rq 1] [x, y] := ⟨_, _, rfl, (rq_is rfl).2 ⟨hx, z1⟩, _, _, rfl, (rq_is rfl).2 ⟨hy, z2⟩, rfl⟩
  unfold maxQ
  rcases cmpQ_cases r s with ⟨h, g⟩ | ⟨h, g⟩ | ⟨h, g⟩
  · rw [if_neg (by grind)]
    refine (run_mk hC (hT _ h) 107 Tryz.f107 [rq 0, rq 1] (.val (rq 1)) 60 Tryz.func107 rfl rfl rfl (by kernel_rfl) [x, y] hv).mono ?_
    rintro e w' ⟨v, rfl, hv, hb⟩
    exact ⟨v, rfl, ((rq_is rfl).1 hv).1, hb⟩
  · rw [if_pos (by grind)]
    refine (run_mk hC (hT _ h) 107 Tryz.f107 [rq 0, rq 1] (.val (rq 0)) 60 Tryz.func107 rfl rfl rfl (by kernel_rfl) [x, y] hv).mono ?_
    rintro e w' ⟨v, rfl, hv, hb⟩
    exact ⟨v, rfl, ((rq_is rfl).1 hv).1, hb⟩
  · rw [if_pos (by grind)]
    refine (run_mk hC (hT _ h) 107 Tryz.f107 [rq 0, rq 1] (.val (rq 0)) 60 Tryz.func107 rfl rfl rfl (by kernel_rfl) [x, y] hv).mono ?_
    rintro e w' ⟨v, rfl, hv, hb⟩
    exact ⟨v, rfl, ((rq_is rfl).1 hv).1, hb⟩
theorem absQ_sizR {r : Rat} {k : Nat} (z : Siz r k) : Siz (absQ r) k := by
  unfold absQ
  split
  · exact z.neg
  · exact z
theorem rabs_q (x : Value) (r : Rat) (w : World) (hx : RQ w x r) : Calls Tryz.prog 40 #[x] w (RNew w (absQ r)) := by
  have hC : (mkC [1, 1, 1] [true, false, false] [33] 8 [clV (.bool (decide (r.num < 0))), clD (digs r.num.natAbs), clD (digs r.den)] w).Ok := mkC_ok (oks_cons (clVb_ok _) (oks_cons (clD_ok ratT _) (oks_cons (clD_ok ratT _) oks_nil))) rfl rfl
  refine (run_mk (T := []) hC (fun t h => by simp at h) 40 Tryz.f40 [rp 0 1 2] (.val (.agg [.lit (.bool false), .cls 1 1, .cls 2 1])) 60 Tryz.func40 rfl rfl rfl (by kernel_rfl) [x] ⟨_, _, rfl, (rp_is rfl rfl rfl).2 hx, rfl⟩).mono ?_
  rintro e w' ⟨v, rfl, ⟨vs, ⟨xs, ys, rfl, rfl, xs2, ys2, rfl, ⟨f, hE, rfl⟩, xs3, ys3, rfl, ⟨g, hE', rfl⟩, h5⟩, rfl⟩, hb⟩
  rw [show ys3 = [] from h5]
  refine ⟨_, rfl, ?_, hb⟩
  have hE : Dg w' (f 0) (digs r.num.natAbs) := hE
  have hE' : Dg w' (g 0) (digs r.den) := hE'
  have h1 : decide ((absQ r).num < 0) = false := by
    unfold absQ
    by_cases h : r.num < 0
    · rw [if_pos h, Rat.neg_num]
      exact decide_eq_false (by omega)
    · rw [if_neg h]
      exact decide_eq_false h
  have h2 : (absQ r).num.natAbs = r.num.natAbs := by
    unfold absQ
    split
    · rw [Rat.neg_num, Int.natAbs_neg]
    · rfl
  have h3 : (absQ r).den = r.den := by
    unfold absQ
    split
    · rw [Rat.neg_den]
    · rfl
  show RatP w' _ _ _ _
  rw [h1, h2, h3]
  exact ⟨f 0, g 0, by simp [List.range_succ], hE, hE'⟩
theorem riszero_q (x : Value) (r : Rat) (w : World) (hx : RQ w x r) : Calls Tryz.prog 35 #[x] w (Go.Proofs.YtccabfblgjcboaaGreatDoor.Val w (.bool (decide (r = 0)))) := by
  have hC : (mkC [1, 1, 1, 1] [true, false, false, true] [33] 7 [clV (.bool (decide (r.num < 0))), clD (digs r.num.natAbs), clD (digs r.den), clV (ii ((digs r.num.natAbs).length : Int))] w).Ok := mkC_ok (oks_cons (clVb_ok _) (oks_cons (clD_ok ratT _) (oks_cons (clD_ok ratT _) (oks_cons (clVi_ok _) oks_nil)))) rfl rfl
  have h0 := digs_pos_len (n := r.num.natAbs)
  have h1 : r.num = 0 ↔ r = 0 := Rat.num_eq_zero
  have hT : ∀ b, decide (r = 0) = b → ∀ t ∈ ([⟨.blt .len [31] 3, [op 1], .val (op 3)⟩, ⟨.bin .eql 3, [op 3, vp (ii 0)], .val (vp (.bool b))⟩] : List Ent), t.Valid (mkC [1, 1, 1, 1] [true, false, false, true] [33] 7 [clV (.bool (decide (r.num < 0))), clD (digs r.num.natAbs), clD (digs r.den), clV (ii ((digs r.num.natAbs).length : Int))] w) :=
    fun b hb => forall_cons (e_len und_nat (pd rfl) (rv rfl)) (forall_cons (e_eql (pv rfl) pvl (by rw [← hb]; congr 1; apply propext; rw [← h1]; omega)) forall_nil)
  cases hd : decide (r = 0) with
  | true =>
    refine (run_mk hC (hT _ hd) 35 Tryz.f35 [rp 0 1 2] (.val (vp (.bool true))) 60 Tryz.func35 rfl rfl rfl (by kernel_rfl) [x] ⟨_, _, rfl, (rp_is rfl rfl rfl).2 hx, rfl⟩).mono ?_
    rintro e w' ⟨v, rfl, hv, hb⟩
    rw [val_of hv]
    exact ⟨rfl, hb⟩
  | false =>
    refine (run_mk hC (hT _ hd) 35 Tryz.f35 [rp 0 1 2] (.val (vp (.bool false))) 60 Tryz.func35 rfl rfl rfl (by kernel_rfl) [x] ⟨_, _, rfl, (rp_is rfl rfl rfl).2 hx, rfl⟩).mono ?_
    rintro e w' ⟨v, rfl, hv, hb⟩
    rw [val_of hv]
    exact ⟨rfl, hb⟩
section
variable {csz : List Nat} {numc : List Bool} {okT : List Nat} {nt : Nat} {cl : List Cl} {w0 : World} {w : World} {v : Value} {p1 p2 p3 p4 : Pat} {res : RPat} {c d c1 c2 c3 c4 c5 c6 : Nat} {r s t r1 r2 r3 r4 : Rat} {k k1 k2 k3 k4 k5 k6 : Nat}
theorem minQ_siz (z1 : Siz r k) (z2 : Siz s k) : Siz (minQ r s) k := by unfold minQ; split <;> assumption
theorem maxQ_siz (z1 : Siz r k) (z2 : Siz s k) : Siz (maxQ r s) k := by unfold maxQ; split <;> assumption
theorem e_rabs (h1 : PR csz numc okT nt cl w0 p1 r k1) (h2 : cl[c2]? = some (clR (absQ r) k2)) (hk : fitr k1 k2 = true) : V csz numc okT nt cl w0 (.call 40) [p1] (.val (rq c2)) :=
  ent_rr (enters_of Tryz.func40 (by kernel_rfl) rfl) h1 h2 (fun z => (absQ_sizR z).le (fitr_le hk).1) (fun W v q _ => rabs_q v r W q)
theorem e_riszero {b : Bool} (h1 : PR csz numc okT nt cl w0 p1 r k1) (h : decide (r = 0) = b) : V csz numc okT nt cl w0 (.call 35) [p1] (.val (vp (.bool b))) := by
  subst h
  exact ent_rv (enters_of Tryz.func35 (by kernel_rfl) rfl) h1 (fun W v q _ => riszero_q v r W q)
end
end Sym
open Go Go.RowKit Go.Proofs Lim
namespace Sym
def rl (s : Bool) (c d : Nat) : Pat := .agg [.lit (.bool s), .cls c 1, .cls d 1]
section
variable {csz : List Nat} {numc : List Bool} {okT : List Nat} {nt : Nat} {cl : List Cl} {w0 : World} {w : World} {v z : Value} {p1 p2 p3 p4 : Pat} {res : RPat} {c d c1 c2 c3 c4 c5 c6 : Nat} {r s t r1 r2 r3 r4 : Rat} {k k1 k2 k3 k4 k5 k6 : Nat}
theorem rl_is2 {s : Bool} {a b : Nat} (h1 : cl[c]? = some (clD (digs a))) (h2 : cl[d]? = some (clD (digs b))) : (rl s c d).is (mkC csz numc okT nt cl w0) w v ↔ RatP w v s a b := by
  constructor
  · rintro ⟨vs, ⟨xs, ys, rfl, rfl, xs2, ys2, rfl, ⟨f, hE, rfl⟩, xs3, ys3, rfl, ⟨g, hE', rfl⟩, h5⟩, rfl⟩
    rw [show ys3 = [] from h5]
    simp only [mkC, h1] at hE
    simp only [mkC, h2] at hE'
    exact ⟨f 0, g 0, by simp [List.range_succ], hE, hE'⟩
  · rintro ⟨x, y, rfl, ha, hb⟩
    refine ⟨[.bool s, x, y], ⟨[.bool s], [x, y], rfl, rfl, [x], [y], rfl, ⟨fun _ => x, ?_, rfl⟩, [y], [], rfl, ⟨fun _ => y, ?_, rfl⟩, rfl⟩, rfl⟩
    · simp only [mkC, h1]; exact ha
    · simp only [mkC, h2]; exact hb
theorem hd_un {o : Oper} {u : UnOp} {t : Nat} {xs : List Operand} (h : opHd o = some (.un u t, xs)) : ∃ x, o.op = .unOp u t x ∧ xs = [x] := by
  unfold opHd at h
  split at h <;> first
    | (rename_i h0; simp only [Option.some.injEq, Prod.mk.injEq, Hd.un.injEq, reduceCtorEq, false_and] at h; try (obtain ⟨⟨rfl, rfl⟩, rfl⟩ := h; exact ⟨_, h0, rfl⟩))
    | (split at h <;> simp at h)
    | simp at h
theorem e_un {u : UnOp} {t : Nat} {x : Value} (h1 : PV csz numc okT nt cl w0 p1 x) (h3 : RV csz numc okT nt cl w0 res z) (hr : ∀ w, (Op.unary u x).run Tryz.prog w = .ok z w) : V csz numc okT nt cl w0 (.un u t) [p1] res := by
  intro w ρ oo xs ho hb hvs
  obtain ⟨a, hop, rfl⟩ := hd_un ho
  obtain ⟨v1, _, e1, h4, e2⟩ := hvs
  obtain rfl := h1 _ _ h4
  subst e2
  simp only [List.map_cons, List.map_nil, List.cons.injEq] at e1
  obtain ⟨ea, _⟩ := e1
  refine ⟨z, w, ?_, h3 w, Below.refl _ _⟩
  show (execOp ρ oo).run Tryz.prog w = _
  simp only [execOp, hop, ea, Sem.run_bind, hr w, Result.andThen_ok]
  rfl
theorem e_negi {t : Nat} {x u : Int} (hz : -x = u) (h1 : PV csz numc okT nt cl w0 p1 (ii x)) (h3 : RV csz numc okT nt cl w0 res (ii u)) (hr : -9223372036854775808 ≤ u ∧ u ≤ 9223372036854775807) : V csz numc okT nt cl w0 (.un .neg t) [p1] res :=
  e_un h1 h3 (fun w => by
    show Result.ok (Value.int .i64 (IntKind.i64.wrap (0 - x))) w = _
    rw [show 0 - x = u by omega, show IntKind.i64.wrap u = u by rw [IntKind.wrap_i64]; omega])
theorem e_addu {t : Nat} {x y u : Int} (hz : x + y = u) (h1 : PV csz numc okT nt cl w0 p1 (.int .u64 x)) (h2 : PV csz numc okT nt cl w0 p2 (.int .u64 y)) (h3 : RV csz numc okT nt cl w0 res (.int .u64 u)) (hr : 0 ≤ u ∧ u ≤ 18446744073709551615) : V csz numc okT nt cl w0 (.bin .add t) [p1, p2] res :=
  e_bin h1 h2 h3 (fun w => by
    show Result.ok (Value.int .u64 (IntKind.u64.wrap (x + y))) w = _
    rw [hz, show IntKind.u64.wrap u = u by rw [IntKind.wrap_u64]; omega])
end
theorem digs_one : digs 1 = [1] := by rw [digs_pos (by decide), show (1 : Nat) / 10000 = 0 from rfl, digs_zero]
theorem clVu_ok {okT : List Nat} {B : Nat} (n : Int) : (clV (.int .u64 n)).Ok okT B := clV_ok rfl
theorem rq_intcast {w : World} {v : Value} {i : Int} {s : Bool} (hs : s = decide (i < 0)) (h : RatP w v s i.natAbs 1) : RQ w v (i : Rat) := by
  subst hs
  exact h
theorem rint_q (i : Int) (h1 : -9223372036854775808 ≤ i) (h2 : i ≤ 9223372036854775807) (w : World) : Calls Tryz.prog 16 #[.int .i64 i] w (RNew w (i : Rat)) := by
  by_cases hi : i < 0
  · have hC : (mkC [1, 1, 1, 1, 1, 1, 1] [true, true, true, true, true, false, false] [33] 18 [clV (ii i), clV (ii (i + 1)), clV (ii (-(i + 1))), clV (.int .u64 (-(i + 1))), clV (.int .u64 ((i.natAbs : Nat) : Int)), clD (digs i.natAbs), clD (digs 1)] w).Ok :=
      mkC_ok (oks_cons (clVi_ok _) (oks_cons (clVi_ok _) (oks_cons (clVi_ok _) (oks_cons (clVu_ok _) (oks_cons (clVu_ok _) (oks_cons (clD_ok ratT _) (oks_cons (clD_ok ratT _) oks_nil))))))) rfl rfl
    have hT : ∀ t ∈ ([⟨.bin .lss 2, [op 0, vp (ii 0)], .val (vp (.bool true))⟩, ⟨.bin .add 2, [op 0, vp (ii 1)], .val (op 1)⟩, ⟨.un .neg 2, [op 1], .val (op 2)⟩, ⟨.cv 2 23, [op 2], .val (op 3)⟩,
        ⟨.bin .add 23, [op 3, vp (.int .u64 1)], .val (op 4)⟩, ⟨.call 87, [op 4], .val (op 5)⟩, ⟨.bs 31 1, [vp (ii 1)], .val (op 6)⟩] : List Ent), t.Valid (mkC [1, 1, 1, 1, 1, 1, 1] [true, true, true, true, true, false, false] [33] 18 [clV (ii i), clV (ii (i + 1)), clV (ii (-(i + 1))), clV (.int .u64 (-(i + 1))), clV (.int .u64 ((i.natAbs : Nat) : Int)), clD (digs i.natAbs), clD (digs 1)] w) :=
      forall_cons (e_lss (pv rfl) pvl (decide_eq_true hi)) (forall_cons (e_add rfl (pv rfl) pvl (rv rfl) (by omega)) (forall_cons (e_negi rfl (pv rfl) (rv rfl) (by omega)) (forall_cons (e_cv (by kernel_rfl) (by kernel_rfl) (by kernel_rfl) (pv rfl) (rv rfl) (by rw [IntKind.wrap_u64]; omega))
        (forall_cons (e_addu (by omega) (pv rfl) pvl (rv rfl) (by omega)) (forall_cons (e_small (by omega) (pv rfl) (rd rfl)) (forall_cons (e_bs1 (x := 1) pvl (rd (by rw [← digs_one]; rfl))) forall_nil))))))
    refine (run_mk hC hT 16 Tryz.f16 [op 0] (.val (rl true 5 6)) 60 Tryz.func16 rfl rfl rfl (by kernel_rfl) [.int .i64 i] ⟨_, _, rfl, (op_is rfl).2 rfl, rfl⟩).mono ?_
    rintro e w' ⟨v, rfl, hv, hb⟩
    exact ⟨v, rfl, rq_intcast (by simp [hi]) ((rl_is2 rfl rfl).1 hv), hb⟩
  · have hC : (mkC [1, 1, 1, 1] [true, true, false, false] [33] 18 [clV (ii i), clV (.int .u64 ((i.natAbs : Nat) : Int)), clD (digs i.natAbs), clD (digs 1)] w).Ok :=
      mkC_ok (oks_cons (clVi_ok _) (oks_cons (clVu_ok _) (oks_cons (clD_ok ratT _) (oks_cons (clD_ok ratT _) oks_nil)))) rfl rfl
    have ei : (i.natAbs : Int) = i := by omega
    have hT : ∀ t ∈ ([⟨.bin .lss 2, [op 0, vp (ii 0)], .val (vp (.bool false))⟩, ⟨.cv 2 23, [op 0], .val (op 1)⟩,
        ⟨.call 87, [op 1], .val (op 2)⟩, ⟨.bs 31 1, [vp (ii 1)], .val (op 3)⟩] : List Ent), t.Valid (mkC [1, 1, 1, 1] [true, true, false, false] [33] 18 [clV (ii i), clV (.int .u64 ((i.natAbs : Nat) : Int)), clD (digs i.natAbs), clD (digs 1)] w) :=
      forall_cons (e_lss (pv rfl) pvl (decide_eq_false hi)) (forall_cons (e_cv (x := i) (by kernel_rfl) (by kernel_rfl) (by kernel_rfl) (pv rfl) (by rw [← ei]; exact rv rfl) (by rw [IntKind.wrap_u64]; omega))
        (forall_cons (e_small (by omega) (pv rfl) (rd rfl)) (forall_cons (e_bs1 (x := 1) pvl (rd (by rw [← digs_one]; rfl))) forall_nil)))
    refine (run_mk hC hT 16 Tryz.f16 [op 0] (.val (rl false 2 3)) 60 Tryz.func16 rfl rfl rfl (by kernel_rfl) [.int .i64 i] ⟨_, _, rfl, (op_is rfl).2 rfl, rfl⟩).mono ?_
    rintro e w' ⟨v, rfl, hv, hb⟩
    exact ⟨v, rfl, rq_intcast (by simp [hi]) ((rl_is2 rfl rfl).1 hv), hb⟩
section
variable {csz : List Nat} {numc : List Bool} {okT : List Nat} {nt : Nat} {cl : List Cl} {w0 : World} {w : World} {v z : Value} {p1 p2 p3 p4 : Pat} {res : RPat} {c d c1 c2 c3 c4 c5 c6 : Nat} {r s t r1 r2 r3 r4 : Rat} {k k1 k2 k3 k4 k5 k6 : Nat}
end
section
variable {csz : List Nat} {numc : List Bool} {okT : List Nat} {nt : Nat} {cl : List Cl} {w0 : World} {w : World} {v z : Value} {p1 p2 p3 p4 : Pat} {res : RPat} {c d c1 c2 c3 c4 c5 c6 : Nat} {r s t r1 r2 r3 r4 : Rat} {k k1 k2 k3 k4 k5 k6 : Nat}
theorem e_rint {i : Int} (h1 : -9223372036854775808 ≤ i) (h2 : i ≤ 9223372036854775807) (h3 : cl[c3]? = some (clR (i : Rat) k3)) (hk : fitr 1 k3 = true) : V csz numc okT nt cl w0 (.call 16) [vp (ii i)] (.val (rq c3)) := by
  refine ⟨enters_of Tryz.func16 (by kernel_rfl) rfl, fun w vs hb hvs => ?_⟩
  obtain ⟨v1, _, rfl, g4, rfl⟩ := hvs
  obtain rfl := vp_is.1 g4
  refine (rint_q i h1 h2 w).mono ?_
  rintro e w' ⟨v, rfl, hv, hb'⟩
  exact ⟨v, rfl, (rq_is h3).2 ⟨hv, (siz_int i h1 h2).le (fitr_le hk).1⟩, hb'⟩
end
end Sym
open Go Go.RowKit Go.Proofs Lim
namespace Sym
section
variable {csz : List Nat} {numc : List Bool} {okT : List Nat} {nt : Nat} {cl : List Cl} {w0 : World} {w : World} {v z : Value} {p1 p2 p3 p4 : Pat} {res : RPat} {c d c1 c2 c3 c4 c5 c6 : Nat} {a b l : List UInt8}
theorem und_str : Tryz.prog.underlying 9 = some .string := by kernel_rfl
theorem e_cat (hl : a.length + b.length ≤ 4000000000000000000) (h1 : PV csz numc okT nt cl w0 p1 (str a)) (h2 : PV csz numc okT nt cl w0 p2 (str b)) (h3 : RV csz numc okT nt cl w0 res (str (a ++ b))) : V csz numc okT nt cl w0 (.bin .add 9) [p1, p2] res := by
  intro w ρ oo xs ho hb hvs
  obtain ⟨x, y, u, hop, rfl⟩ := hd_bin ho
  obtain ⟨v1, _, e1, h4, v2, _, e2, h5, e3⟩ := hvs
  obtain rfl := h1 _ _ h4
  obtain rfl := h2 _ _ h5
  subst e2
  simp only [List.map_cons, List.map_nil, List.cons.injEq] at e1
  obtain ⟨ea, eb, _⟩ := e1
  refine ⟨_, w, ?_, h3 w, Below.refl _ _⟩
  show (execOp ρ oo).run Tryz.prog w = _
  have hg : (eqGuard .add 9 x y (str a) (str b)).run Tryz.prog w = .ok () w := rfl
  have hr : (Go.binOp .add 9 (str a) (str b)).run Tryz.prog w = .ok (str (a ++ b)) w := by
    have hn : ¬ ((a.length + b.length : Nat) : Int) > IntKind.i64.max := by
      show ¬ ((a.length + b.length : Nat) : Int) > 9223372036854775807
      omega
    have e : (⟨a.toArray⟩ : ByteArray) ++ ⟨b.toArray⟩ = ⟨(a ++ b).toArray⟩ := bapp a b
    show (Op.stringOp .add ⟨a.toArray⟩ ⟨b.toArray⟩).run Tryz.prog w = _
    unfold Op.stringOp
    have hs : ((((⟨a.toArray⟩ : ByteArray).size + (⟨b.toArray⟩ : ByteArray).size : Nat)) : Int) = ((a.length + b.length : Nat) : Int) := rfl
    simp only [hs, if_neg hn, e]
    rfl
  simp only [execOp, hop, ea, eb, Sem.run_bind, hg, hr, Result.andThen_ok]
  rfl
theorem e_chr {x : Nat} {u : UInt8} (hu : ((u.toNat : Nat) : Int) = (x : Int)) (h1 : ∀ w vs, GrpsAre (mkC csz numc okT nt cl w0) w [.cls c 1] vs → vs = [.int .u8 (x : Int)]) (h3 : RV csz numc okT nt cl w0 res (str [u])) : V csz numc okT nt cl w0 (.cv 100 9) [.slc 5 1 [.cls c 1]] res := by
  intro w ρ oo xs ho hb hvs
  obtain ⟨y, hop, rfl⟩ := hd_cv ho
  obtain ⟨v1, _, e1, ⟨k, vs, rfl, hk, hg⟩, e2⟩ := hvs
  subst e2
  simp only [List.map_cons, List.map_nil, List.cons.injEq] at e1
  obtain ⟨ea, _⟩ := e1
  obtain rfl := h1 _ _ hg
  refine ⟨_, w, ?_, h3 w, Below.refl _ _⟩
  show (execOp ρ oo).run Tryz.prog w = _
  have hr := run_convert_bytes_back (P := Tryz.prog) w 100 9 5 ⟨k, 0, none⟩ 1 [u] (by kernel_rfl) (by kernel_rfl) (by kernel_rfl) (fun j hj => by
    have hj : j < 1 := hj
    obtain rfl : j = 0 := by omega
    have : w.cell? ⟨k, 0, none⟩ = some (.int .u8 (x : Int)) := by simp [World.cell?, hk]
    rw [show (⟨k, 0, none⟩ : Addr).add 0 = ⟨k, 0, none⟩ from addr_add k 0 0, this]
    simp [hu])
  have hr : (convert 100 9 (.slice (some ⟨k, 0, none⟩) 1 1)).run Tryz.prog w = .ok (.string ⟨#[u]⟩) w := hr
  simp only [execOp, hop, ea, Sem.run_bind, hr, Result.andThen_ok]
  rfl
end
theorem grp1 {csz : List Nat} {numc : List Bool} {okT : List Nat} {nt : Nat} {cl : List Cl} {w0 w : World} {c : Nat} {x : Value} (h : cl[c]? = some (clW x)) : ∀ w vs, GrpsAre (mkC csz numc okT nt cl w0) w [.cls c 1] vs → vs = [x] := by
  rintro w vs ⟨xs, ys, rfl, ⟨f, hE, rfl⟩, hy⟩
  rw [show ys = [] from hy]
  simp only [mkC, h] at hE
  have hE : f 0 = x := hE
  simp [List.range_succ, hE]
theorem digs_drop : ∀ (j n : Nat), (digs n).drop j = digs (n / 10000 ^ j)
  | 0, n => by simp
  | j + 1, n => by
    by_cases h : n = 0
    · subst h
      rw [digs_zero, Nat.zero_div, digs_zero]; rfl
    · rw [digs_pos h, List.drop_succ_cons, digs_drop j, Nat.div_div_eq_div_mul, Nat.pow_succ, Nat.mul_comm]
theorem nat_drop_pos {n j : Nat} (h : j < (digs n).length) : 0 < nat ((digs n).drop j) := by
  rw [digs_drop, nat_digs]
  have : 0 < ((digs n).drop j).length := by rw [List.length_drop]; omega
  rw [digs_drop] at this
  exact Nat.pos_of_ne_zero (digs_pos_len.1 this)
def sof (pre : List Nat) : List UInt8 := (pre.map dbyte).reverse
theorem sof_snoc (pre : List Nat) (d : Nat) : sof (pre ++ [d]) = [dbyte d] ++ sof pre := by unfold sof; simp
theorem sof_len (pre : List Nat) : (sof pre).length = pre.length := by unfold sof; simp
abbrev vl_dig (x : Value) (ds : List Nat) (i d k : Nat) (s : List UInt8) : List Value := [x, ii (i : Int), ii (d : Int), ii (k : Int), str s, ii (ds.length : Int), ii ((ds.length : Int) - 1), ptrAt x i, ii ((ds.getD i 0 : Nat) : Int), ii ((d % 10 : Nat) : Int), ii ((48 + d % 10 : Nat) : Int), .int .u8 ((48 + d % 10 : Nat) : Int), str [dbyte (d % 10)], str ([dbyte (d % 10)] ++ s), ii ((d / 10 : Nat) : Int), ii ((k + 1 : Nat) : Int), ii ((i + 1 : Nat) : Int)]
theorem dig_one {x : Value} (hx : x.oneCell' = true) (ds : List Nat) (i d k : Nat) (s : List UInt8) : ∀ v ∈ vl_dig x ds i d k s, v.oneCell' = true :=
  one_cons hx (one_cons rfl (one_cons rfl (one_cons rfl (one_cons rfl (one_cons rfl (one_cons rfl (one_cons (ptrAt_one _ _) (one_cons rfl (one_cons rfl (one_cons rfl (one_cons rfl (one_cons rfl (one_cons rfl (one_cons rfl (one_cons rfl (one_cons rfl one_nil))))))))))))))))
def t_digL (b : Bool) : List Ent := [⟨.blt .len [31] 3, [op 0], .val (op 5)⟩, ⟨.bin .lss 3, [op 1, op 5], .val (vp (.bool b))⟩, ⟨.bin .add 3, [op 1, vp (ii 1)], .val (op 16)⟩]
theorem dig_L {x : Value} {ds : List Nat} {i d k : Nat} {s : List UInt8} {w : World} (hx : Dg w x ds) (hi : i < 1000000000) {b : Bool} (h : decide (i < ds.length) = b) : ∀ t ∈ t_digL b, t.Valid (CV 46 (vl_dig x ds i d k s) w) :=
  forall_cons (e_len und_nat (pdW rfl hx) (rvW rfl)) (forall_cons (e_lss (pvW rfl) (pvW rfl) (by rw [← h]; simp)) (forall_cons (e_add (by omega) (pvW rfl) pvl (rvW rfl) (by omega)) forall_nil))
def t_digR : List Ent := [⟨.ix 31, [op 0, op 1], .val (op 7)⟩, ⟨.ld 3, [op 7], .val (op 8)⟩]
theorem dig_R {x : Value} {ds : List Nat} {i d k : Nat} {s : List UInt8} {w : World} (hx : Dg w x ds) (hi : i < ds.length) : ∀ t ∈ t_digR, t.Valid (CV 46 (vl_dig x ds i d k s) w) :=
  forall_cons (e_ixW und_nat elem_nat (pvW rfl) hx (pvW rfl) hi (rvW rfl)) (forall_cons (e_ldW (pvW rfl) hx hi (rvW rfl)) forall_nil)
def t_digG (b1 b2 b3 : Bool) : List Ent := [⟨.bin .lss 3, [op 3, vp (ii 4)], .val (vp (.bool b1))⟩, ⟨.blt .len [31] 3, [op 0], .val (op 5)⟩, ⟨.bin .sub 3, [op 5, vp (ii 1)], .val (op 6)⟩, ⟨.bin .lss 3, [op 1, op 6], .val (vp (.bool b2))⟩, ⟨.bin .gtr 3, [op 2, vp (ii 0)], .val (vp (.bool b3))⟩]
theorem dig_G {x : Value} {ds : List Nat} {i d k : Nat} {s : List UInt8} {w : World} (hx : Dg w x ds) (hl : ds.length < 1000000000) {b1 b2 b3 : Bool} (h1 : decide (k < 4) = b1) (h2 : decide (i + 1 < ds.length) = b2) (h3 : decide (0 < d) = b3) : ∀ t ∈ t_digG b1 b2 b3, t.Valid (CV 46 (vl_dig x ds i d k s) w) :=
  forall_cons (e_lss (pvW rfl) pvl (by rw [← h1]; congr 1; apply propext; omega)) (forall_cons (e_len und_nat (pdW rfl hx) (rvW rfl)) (forall_cons (e_sub rfl (pvW rfl) pvl (rvW rfl) (by omega)) (forall_cons (e_lss (pvW rfl) (pvW rfl) (by rw [← h2]; congr 1; apply propext; omega)) (forall_cons (e_gtr (pvW rfl) pvl (by rw [← h3]; congr 1; apply propext; omega)) forall_nil))))
def t_digB : List Ent := [⟨.bin .rem 3, [op 2, vp (ii 10)], .val (op 9)⟩, ⟨.bin .add 3, [vp (ii 48), op 9], .val (op 10)⟩, ⟨.cv 3 5, [op 10], .val (op 11)⟩, ⟨.cv 100 9, [.slc 5 1 [.cls 11 1]], .val (op 12)⟩, ⟨.bin .add 9, [op 12, op 4], .val (op 13)⟩,
  ⟨.bin .quo 3, [op 2, vp (ii 10)], .val (op 14)⟩, ⟨.bin .add 3, [op 3, vp (ii 1)], .val (op 15)⟩]
theorem dig_B {x : Value} {ds : List Nat} {i d k : Nat} {s : List UInt8} {w : World} (hd : d < 10000) (hk : k < 4) (hs : s.length < 4000000000) : ∀ t ∈ t_digB, t.Valid (CV 46 (vl_dig x ds i d k s) w) :=
  forall_cons (e_rem (k := .i64) (n := 10) (pvW rfl) pvl (rvW rfl) (by decide)) (forall_cons (e_add (by omega) pvl (pvW rfl) (rvW rfl) (by omega)) (forall_cons (e_cv (by kernel_rfl) (by kernel_rfl) (by kernel_rfl) (pvW rfl) (rvW rfl) (by show (((48 + d % 10 : Nat) : Int)) % 256 = _; omega))
    (forall_cons (e_chr (x := 48 + d % 10) (by rw [dbyte_toNat (by omega)]) (grp1 (w := w) rfl) (rvW rfl)) (forall_cons (e_cat (by simp; omega) (pvW rfl) (pvW rfl) (rvW rfl)) (forall_cons (e_quo (k := .i64) (n := 10) (pvW rfl) pvl (rvW rfl) (by decide) (by rw [IntKind.wrap_i64]; omega)) (forall_cons (e_add (by omega) (pvW rfl) pvl (rvW rfl) (by omega)) forall_nil))))))
noncomputable def b_dig : Code := bodyOf Tryz.f125
noncomputable def lo_dig : Code := inner (inner (seqR (seqL (seqR (seqR (seqR b_dig))))))
noncomputable def li_dig : Code := inner (inner (seqR (seqR (inner (seqL (seqR lo_dig))))))
theorem then_ret {K : Act → World → Prop} {Q : Exit → Act → World → Prop} {a : Act} {w : World} (h : Q .ret a w) : Exit.then K Q .ret a w := h
theorem calls_v1 {nt : Nat} {w : World} {f : FuncId} {fn : Func} {c : Code} (hf : Tryz.prog.funcs[f]? = some fn) (hb : fn.body = some c) (hnt : fn.ntmps = nt) (hlen : Nat.ble 1 nt = true) (x : Value) {Q : Ending → World → Prop}
    (h : ∀ a, St' nt [x] [(0, 0)] a → c.wp Tryz.prog (bodyPost Tryz.prog fn Q) a w) : Calls Tryz.prog f #[x] w Q :=
  calls_at (C := CV nt [x] w) (args := [op 0]) hf hb hnt (Nat.le_of_ble_eq_true hlen) (vs := [x]) ⟨_, _, rfl, (op_isW rfl).2 rfl, rfl⟩ (fun a hA => h a ⟨hA.defers, hA.size, (items_sl (is := [(0, 0)]) (rest := []) rfl hA.items).1⟩)
theorem digs10_step {R d p U : Nat} (hR : R = d + 10 * p * U) (h0 : R ≠ 0) : Lim.digs R = d % 10 :: Lim.digs (d / 10 + p * U) := by
  rw [Lim.digs_pos h0]
  have e : R = d + 10 * (p * U) := by rw [hR, Nat.mul_assoc]
  rw [show R % 10 = d % 10 by omega, show R / 10 = d / 10 + p * U by omega]
theorem digs10_len (n : Nat) : (Lim.digs n).length ≤ 4 * (digs n).length := by
  refine Lim.digs_len ?_
  have := nat_bound (digs_lt n)
  rw [nat_digs] at this
  rw [Nat.pow_mul]
  exact this
theorem dig_inner (x : Value) (n i : Nat) (hi : i < (digs n).length) (hl : (digs n).length < 100000000) (pre0 : List Nat) (h0 : Lim.digs n = pre0 ++ Lim.digs ((digs n).getD i 0 + 10000 * nat ((digs n).drop (i + 1)))) (a : Act) (w : World) (hx : Dg w x (digs n))
    (hs : St' 46 (vl_dig x (digs n) i ((digs n).getD i 0) 0 (sof pre0)) [(0, 0), (3, 4), (4, 1), (5, 2), (6, 3)] a) {Q : Exit → Act → World → Prop}
    (hQ : ∀ a' w' pre, Lim.digs n = pre ++ Lim.digs (nat ((digs n).drop (i + 1))) → St' 46 (vl_dig x (digs n) i 0 0 (sof pre)) [(0, 0), (3, 4), (4, 1)] a' → Below w.heap.size w w' → Q .normal a' w') : (Code.block 2 (.loop li_dig)).wp Tryz.prog Q a w := by
  have hx9 := hx.one
  have hU : i + 1 < (digs n).length → 0 < nat ((digs n).drop (i + 1)) := fun h => nat_drop_pos h
  have hU0 : ¬ i + 1 < (digs n).length → nat ((digs n).drop (i + 1)) = 0 := fun h => nat_drop_end (by omega)
  have hd0 := dig_digs n i
  have hl10 := digs10_len n
  generalize hds : digs n = ds at *
  generalize nat (ds.drop (i + 1)) = U at *
  generalize ds.getD i 0 = d0 at *
  refine while_is (Θ := Nat × Nat × List Nat) (fun θ a w1 => θ.1 ≤ 4 ∧ θ.2.1 < 10 ^ (4 - θ.1) ∧ Lim.digs n = θ.2.2 ++ Lim.digs (θ.2.1 + 10 ^ (4 - θ.1) * U) ∧ St' 46 (vl_dig x ds i θ.2.1 θ.1 (sof θ.2.2)) [(0, 0), (3, 4), (4, 1), (5, 2), (6, 3)] a ∧ Below w.heap.size w w1) (fun θ => 4 - θ.1) ?_ (0, d0, pre0) ⟨Nat.zero_le _, hd0, h0, hs, Below.refl _ _⟩
  rintro ⟨k, d, pre⟩ a w1 ⟨hk, hd, hdig, hs, hb⟩
  have hk : k ≤ 4 := hk
  have hd : d < 10 ^ (4 - k) := hd
  have hdig : Lim.digs n = pre ++ Lim.digs (d + 10 ^ (4 - k) * U) := hdig
  have hx1 := hx.below hb (Nat.le_refl _)
  have hd4 : d < 10000 := Nat.lt_of_lt_of_le hd (Nat.pow_le_pow_right (by decide) (by omega : 4 - k ≤ 4))
  have hpl : (sof pre).length < 4000000000 := by
    have := congrArg List.length hdig
    rw [List.length_append] at this
    rw [sof_len]
    omega
  have hl9 : ds.length < 1000000000 := by omega
  have one := dig_one hx9 ds i d k (sof pre)
  by_cases hgo : k < 4 ∧ (i + 1 < ds.length ∨ 0 < d)
  · have key : ∀ (Q' : Exit → Act → World → Prop), (∀ a' w', St' 46 (vl_dig x ds i d k (sof pre)) [(0, 0), (3, 4), (4, 1), (5, 2), (6, 3)] a' → Below w1.heap.size w1 w' → Q' .normal a' w') → (seqL li_dig).wp Tryz.prog Q' a w1 := by
      intro Q' hQ'
      cases h2 : decide (i + 1 < ds.length) <;> cases h3 : decide (0 < d)
      · exfalso
        rcases hgo.2 with h | h
        · exact of_decide_eq_false h2 h
        · exact of_decide_eq_false h3 h
      all_goals exact seg_v [(0, 0), (3, 4), (4, 1), (5, 2), (6, 3)] [(0, 0), (3, 4), (4, 1), (5, 2), (6, 3)] (n := 30) (x := .normal) one (dig_G hx1 hl9 (decide_eq_true hgo.1) h2 h3) hs (by kernel_rfl) rfl rfl hQ'
    refine wp_seq (key _ (fun a5 w5 hs hb5 => ?_))
    have hb := hb.trans (hb5.mono hb.size)
    refine wp_seq (wp_block (wp_seq (seg_v [(0, 0), (3, 4), (4, 1), (5, 2), (6, 3)] [(0, 0), (3, 13), (4, 1), (5, 2), (6, 3)] (n := 30) (x := .normal) one (dig_B hd4 hgo.1 hpl) hs (by kernel_rfl) rfl rfl (fun a6 w6 hs hb6 => ?_))))
    have hb := hb.trans (hb6.mono hb.size)
    refine seg_v [(0, 0), (3, 13), (4, 1), (5, 2), (6, 3)] [(0, 0), (3, 13), (4, 1), (5, 14), (6, 3)] (n := 30) (x := .normal) one (dig_B hd4 hgo.1 hpl) hs (by kernel_rfl) rfl rfl (fun a7 w7 hs hb7 => ?_)
    have hb := hb.trans (hb7.mono hb.size)
    show (seqR (seqR li_dig)).wp Tryz.prog _ _ _
    refine seg_v [(0, 0), (3, 13), (4, 1), (5, 14), (6, 3)] [(0, 0), (3, 13), (4, 1), (5, 14), (6, 15)] (n := 30) (x := .normal) one (dig_B hd4 hgo.1 hpl) hs (by kernel_rfl) rfl rfl (fun a8 w8 hs hb8 => ?_)
    have hb := hb.trans (hb8.mono hb.size)
    have hp : 10 ^ (4 - k) = 10 * 10 ^ (4 - (k + 1)) := by rw [show 4 - k = 4 - (k + 1) + 1 by omega, Nat.pow_succ, Nat.mul_comm]
    refine ⟨(k + 1, d / 10, pre ++ [d % 10]), ⟨hgo.1, ?_, ?_, ?_, hb⟩, ?_⟩
    · show d / 10 < 10 ^ (4 - (k + 1))
      rw [hp] at hd
      omega
    · show Lim.digs n = (pre ++ [d % 10]) ++ Lim.digs (d / 10 + 10 ^ (4 - (k + 1)) * U)
      have hne : d + 10 ^ (4 - k) * U ≠ 0 := by
        rcases hgo.2 with h | h
        · have h1 := hU h
          have h2 : 0 < 10 ^ (4 - k) := Nat.pow_pos (by decide)
          have := Nat.mul_pos h2 h1
          omega
        · omega
      rw [hdig, digs10_step (p := 10 ^ (4 - (k + 1))) (d := d) (U := U) (by rw [← hp]) hne, List.append_assoc]
      rfl
    · have : sof (pre ++ [d % 10]) = [dbyte (d % 10)] ++ sof pre := sof_snoc _ _
      show St' 46 (vl_dig x ds i (d / 10) (k + 1) (sof (pre ++ [d % 10]))) _ _
      rw [this]
      exact ⟨hs.defers, hs.size, hs.sl⟩
    · show 4 - (k + 1) < 4 - k
      omega
  · have key : ∀ (Q' : Exit → Act → World → Prop), (∀ a' w', St' 46 (vl_dig x ds i d k (sof pre)) [(0, 0), (3, 4), (4, 1)] a' → Below w1.heap.size w1 w' → Q' (.exit 2) a' w') → (seqL li_dig).wp Tryz.prog Q' a w1 := by
      intro Q' hQ'
      cases h1 : decide (k < 4) <;> cases h2 : decide (i + 1 < ds.length) <;> cases h3 : decide (0 < d)
      all_goals first
        | (exfalso; exact hgo ⟨of_decide_eq_true h1, .inl (of_decide_eq_true h2)⟩)
        | (exfalso; exact hgo ⟨of_decide_eq_true h1, .inr (of_decide_eq_true h3)⟩)
        | exact seg_v [(0, 0), (3, 4), (4, 1), (5, 2), (6, 3)] [(0, 0), (3, 4), (4, 1)] (n := 30) (x := .exit 2) one (dig_G hx1 hl9 h1 h2 h3) hs (by kernel_rfl) rfl rfl hQ'
    refine wp_seq (key _ (fun a5 w5 hs hb5 => ?_))
    refine hQ a5 w5 pre ?_ ⟨hs.defers, hs.size, hs.sl⟩ (hb.trans (hb5.mono hb.size))
    rw [hdig]
    congr 2
    rcases Nat.lt_or_ge k 4 with h4 | h4
    · have hd0 : d = 0 := by
        rcases Nat.eq_zero_or_pos d with h | h
        · exact h
        · exact absurd ⟨h4, .inr h⟩ hgo
      have hu : U = 0 := hU0 (fun h => hgo ⟨h4, .inl h⟩)
      rw [hd0, hu, Nat.mul_zero]
    · obtain rfl : k = 4 := by omega
      have : d < 1 := hd
      show d + 1 * U = U
      omega
theorem digits_ok (x : Value) (n : Nat) (w : World) (hx : Dg w x (digs n)) (hl : (digs n).length < 100000000) : Calls Tryz.prog 125 #[x] w (fun e w' => e = .returned (str (ntext n)) ∧ Below w.heap.size w w') := by
  have hx9 := hx.one
  refine calls_v1 (nt := 46) (f := 125) Tryz.func125 (c := .seq (seqL b_dig) (.seq (seqL (seqR b_dig)) (.seq (seqL (seqR (seqR b_dig))) (.seq (.seq (seqL (seqL (seqR (seqR (seqR b_dig))))) (.block 0 (.loop lo_dig))) (seqR (seqR (seqR (seqR b_dig)))))))) rfl rfl rfl x (fun a hs => ?_)
  have one1 : ∀ v ∈ [x], v.oneCell' = true := one_cons hx9 one_nil
  refine wp_seq (seg_v (T := []) [(0, 0)] [(0, 0)] (n := 30) (x := .normal) one1 forall_nil hs (by kernel_rfl) rfl rfl (fun a1 w1 hs hb => ?_))
  have hs : St' 46 [x, ii ((digs n).length : Int)] [(0, 0)] a1 := ⟨hs.defers, hs.size, hs.sl⟩
  have one2 : ∀ v ∈ [x, ii ((digs n).length : Int)], v.oneCell' = true := one_cons hx9 (one_cons rfl one_nil)
  have hT : ∀ b, decide ((digs n).length = 0) = b → ∀ t ∈ [(⟨.blt .len [31] 3, [op 0], .val (op 1)⟩ : Ent), ⟨.bin .eql 3, [op 1, vp (ii 0)], .val (vp (.bool b))⟩], t.Valid (CV 46 [x, ii ((digs n).length : Int)] w1) := fun b h =>
    forall_cons (e_len und_nat (pdW rfl (hx.below hb (Nat.le_refl _))) (rvW rfl)) (forall_cons (e_eql (pvW rfl) pvl (by rw [← h]; congr 1; apply propext; omega)) forall_nil)
  by_cases h0 : n = 0
  · have h00 : (digs n).length = 0 := by rw [h0, digs_zero]; rfl
    refine wp_seq (seg_vl [(0, 0)] [] [(2, str [48])] (n := 30) (x := .ret) one2 (hT true (decide_eq_true h00)) hs (by kernel_rfl) rfl rfl (fun a2 w2 hs hl2 hb2 => ?_))
    refine then_ret (ret_v rfl hs.defers hl2.1 ⟨?_, hb.trans (hb2.mono hb.size)⟩)
    rw [h0]
    rfl
  have hpos := digs_pos_len.2 h0
  refine wp_seq (seg_v [(0, 0)] [(0, 0)] (n := 30) (x := .normal) one2 (hT false (decide_eq_false (by omega))) hs (by kernel_rfl) rfl rfl (fun a2 w2 hs hb2 => ?_))
  have hb := hb.trans (hb2.mono hb.size)
  refine wp_seq (seg_vl (T := []) [(0, 0)] [(0, 0)] [(3, str [])] (n := 30) (x := .normal) one2 forall_nil hs (by kernel_rfl) rfl rfl (fun a3 w3 hs hl3 hb3 => ?_))
  have hb := hb.trans (hb3.mono hb.size)
  have hs : St' 46 [x, str []] [(0, 0), (3, 1)] a3 := ⟨hs.defers, hs.size, hs.sl.1, hl3.1, trivial⟩
  have one3 : ∀ v ∈ [x, str []], v.oneCell' = true := one_cons hx9 (one_cons rfl one_nil)
  refine wp_seq (wp_seq (seg_vl (T := []) [(0, 0), (3, 1)] [(0, 0), (3, 1)] [(4, ii 0)] (n := 30) (x := .normal) one3 forall_nil hs (by kernel_rfl) rfl rfl (fun a4 w4 hs hl4 hb4 => ?_)))
  have hb := hb.trans (hb4.mono hb.size)
  have hs : St' 46 (vl_dig x (digs n) 0 0 0 (sof [])) [(0, 0), (3, 4), (4, 1)] a4 := ⟨hs.defers, hs.size, hs.sl.1, hs.sl.2.1, hl4.1, trivial⟩
  refine while_is (Θ := Nat × List Nat) (fun θ a w1 => θ.1 ≤ (digs n).length ∧ Lim.digs n = θ.2 ++ Lim.digs (nat ((digs n).drop θ.1)) ∧ St' 46 (vl_dig x (digs n) θ.1 0 0 (sof θ.2)) [(0, 0), (3, 4), (4, 1)] a ∧ Below w.heap.size w w1) (fun θ => (digs n).length - θ.1) ?_ (0, []) ⟨Nat.zero_le _, by rw [List.drop_zero, nat_digs]; rfl, hs, hb⟩
  rintro ⟨i, pre⟩ a w1 ⟨hi, hdig, hs, hb⟩
  have hi : i ≤ (digs n).length := hi
  have hdig : Lim.digs n = pre ++ Lim.digs (nat ((digs n).drop i)) := hdig
  have hx1 := hx.below hb (Nat.le_refl _)
  by_cases hend : i < (digs n).length
  · refine wp_seq (seg_v [(0, 0), (3, 4), (4, 1)] [(0, 0), (3, 4), (4, 1)] (n := 30) (x := .normal) (dig_one hx9 (digs n) i 0 0 (sof pre)) (dig_L hx1 (by omega) (decide_eq_true hend)) hs (by kernel_rfl) rfl rfl (fun a5 w5 hs hb5 => ?_))
    have hb := hb.trans (hb5.mono hb.size)
    refine wp_seq (wp_block (wp_seq (seg_v [(0, 0), (3, 4), (4, 1)] [(0, 0), (3, 4), (4, 1), (5, 8)] (n := 30) (x := .normal) (dig_one hx9 (digs n) i 0 0 (sof pre)) (dig_R (hx.below hb (Nat.le_refl _)) hend) hs (by kernel_rfl) rfl rfl (fun a6 w6 hs hb6 => ?_))))
    have hb := hb.trans (hb6.mono hb.size)
    refine wp_seq (seg_vl (T := []) [(0, 0), (3, 4), (4, 1), (5, 8)] [(0, 0), (3, 4), (4, 1), (5, 8)] [(6, ii 0)] (n := 30) (x := .normal) (dig_one hx9 (digs n) i 0 0 (sof pre)) forall_nil hs (by kernel_rfl) rfl rfl (fun a7 w7 hs hl7 hb7 => ?_))
    have hb := hb.trans (hb7.mono hb.size)
    have hs : St' 46 (vl_dig x (digs n) i ((digs n).getD i 0) 0 (sof pre)) [(0, 0), (3, 4), (4, 1), (5, 2), (6, 3)] a7 := ⟨hs.defers, hs.size, hs.sl.1, hs.sl.2.1, hs.sl.2.2.1, hs.sl.2.2.2.1, hl7.1, trivial⟩
    refine dig_inner x n i hend hl pre (by rw [hdig, nat_drop]) a7 w7 (hx.below hb (Nat.le_refl _)) hs (fun a8 w8 pre' hdig' hs hb8 => ?_)
    have hb := hb.trans (hb8.mono hb.size)
    show (seqR (seqR lo_dig)).wp Tryz.prog _ _ _
    refine seg_v [(0, 0), (3, 4), (4, 1)] [(0, 0), (3, 4), (4, 16)] (n := 30) (x := .normal) (dig_one hx9 (digs n) i 0 0 (sof pre')) (dig_L (hx.below hb (Nat.le_refl _)) (by omega) (decide_eq_true hend)) hs (by kernel_rfl) rfl rfl (fun a9 w9 hs hb9 => ?_)
    have hb := hb.trans (hb9.mono hb.size)
    exact ⟨(i + 1, pre'), ⟨hend, hdig', ⟨hs.defers, hs.size, hs.sl⟩, hb⟩, by show (digs n).length - (i + 1) < (digs n).length - i; omega⟩
  · refine wp_seq (seg_v [(0, 0), (3, 4), (4, 1)] [(0, 0), (3, 4), (4, 1)] (n := 30) (x := .exit 0) (dig_one hx9 (digs n) i 0 0 (sof pre)) (dig_L hx1 (by omega) (decide_eq_false hend)) hs (by kernel_rfl) rfl rfl (fun a5 w5 hs hb5 => ?_))
    have hb := hb.trans (hb5.mono hb.size)
    refine seg_v (T := []) [(0, 0), (3, 4), (4, 1)] [(2, 4)] (n := 30) (x := .ret) (dig_one hx9 (digs n) i 0 0 (sof pre)) forall_nil hs (by kernel_rfl) rfl rfl (fun a6 w6 hs hb6 => ret_v rfl hs.defers hs.sl.1 ⟨?_, hb.trans (hb6.mono hb.size)⟩)
    rw [nat_drop_end (by omega), Lim.digs_zero, List.append_nil] at hdig
    show Ending.returned (str (sof pre)) = _
    unfold ntext sof
    rw [if_neg h0, hdig]
end Sym
open Go Go.RowKit Go.Proofs Lim
namespace Sym
section
variable {csz : List Nat} {numc : List Bool} {okT : List Nat} {nt : Nat} {cl : List Cl} {w0 : World} {w : World} {v z : Value} {p1 p2 p3 p4 : Pat} {res : RPat} {c d c1 c2 c3 c4 c5 c6 : Nat} {a b l : List UInt8}
theorem e_digits {n : Nat} (hl : (digs n).length < 100000000) (h1 : PD csz numc okT nt cl w0 p1 (digs n)) (h3 : RV csz numc okT nt cl w0 res (str (ntext n))) : V csz numc okT nt cl w0 (.call 125) [p1] res := by
  refine ⟨enters_of Tryz.func125 (by kernel_rfl) rfl, fun w vs hb hvs => ?_⟩
  obtain ⟨v1, _, rfl, h4, rfl⟩ := hvs
  refine (digits_ok v1 n w (h1 _ _ hb h4) hl).mono ?_
  rintro e w' ⟨rfl, hb⟩
  exact ⟨_, rfl, h3 w', hb⟩
end
def rtext (s : Bool) (m k : Nat) : List UInt8 := (if s then [45] else []) ++ ntext m ++ (if k = 1 then [] else 47 :: ntext k)
theorem rtext_q (r : Rat) : rtext (decide (r.num < 0)) r.num.natAbs r.den = qtext r := by
  unfold rtext qtext
  by_cases h : r.num < 0 <;> simp [h]
theorem ntext_len4 (n : Nat) : (ntext n).length ≤ 4 * (digs n).length + 1 := by
  have := digs10_len n
  unfold ntext
  split
  · simp
  · simp; omega
abbrev cl_text (m k : Nat) (a b : List UInt8) : List Cl := [clD (digs m), clD (digs k), clV (str (ntext m)), clV (str b), clD (digs 1), clV (str (a ++ [47])), clV (str (ntext k)), clV (str ((a ++ [47]) ++ ntext k))]
noncomputable abbrev C_text (m k : Nat) (a b : List UInt8) (w : World) : Ctx := mkC [1, 1, 1, 1, 1, 1, 1, 1] [false, false, true, true, false, true, true, true] [33] 23 (cl_text m k a b) w
theorem clVs_ok {okT : List Nat} {B : Nat} (a : List UInt8) : (clV (str a)).Ok okT B := clV_ok rfl
theorem text_C (m k : Nat) (a b : List UInt8) (w : World) : (C_text m k a b w).Ok := mkC_ok (oks_cons (clD_ok ratT _) (oks_cons (clD_ok ratT _) (oks_cons (clVs_ok _) (oks_cons (clVs_ok _) (oks_cons (clD_ok ratT _) (oks_cons (clVs_ok _) (oks_cons (clVs_ok _) (oks_cons (clVs_ok _) oks_nil)))))))) rfl rfl
def t_text (i : Int) (c : Nat) : List Ent := [⟨.call 125, [op 0], .val (op 2)⟩, ⟨.bin .add 9, [vp (str [45]), op 2], .val (op 3)⟩, ⟨.bs 31 1, [vp (ii 1)], .val (op 4)⟩, ⟨.call 89, [op 1, op 4], .val (vp (ii i))⟩,
  ⟨.bin .add 9, [op c, vp (str [47])], .val (op 5)⟩, ⟨.call 125, [op 1], .val (op 6)⟩, ⟨.bin .add 9, [op 5, op 6], .val (op 7)⟩]
theorem text_T (m k : Nat) (a : List UInt8) (w : World) (h1 : (digs m).length < 10000000) (h2 : (digs k).length < 10000000) (ha : a.length < 100000000) {i : Int} (hi : cmpN k 1 = i) {c : Nat} (hc : (cl_text m k a ([45] ++ ntext m))[c]? = some (clV (str a))) : ∀ t ∈ t_text i c, t.Valid (C_text m k a ([45] ++ ntext m) w) := by
  have l1 := ntext_len4 m
  have l2 := ntext_len4 k
  exact forall_cons (e_digits (by omega) (pd rfl) (rv rfl)) (forall_cons (e_cat (by simp; omega) pvl (pv rfl) (rv rfl)) (forall_cons (e_bs1 (x := 1) pvl (rd (by rw [← digs_one]; rfl))) (forall_cons (e_order (ds := digs k) (es := digs 1) (pd rfl) (pd rfl) (dig_digs _) (dig_digs _) (by rw [nat_digs, nat_digs, hi]; exact rvl))
    (forall_cons (e_cat (by simp; omega) (pv hc) pvl (rv rfl)) (forall_cons (e_digits (by omega) (pd rfl) (rv rfl)) (forall_cons (e_cat (by simp; omega) (pv rfl) (pv rfl) (rv rfl)) forall_nil))))))
theorem text_ok (s : Bool) (x : Value) (m k : Nat) (w : World) (hx : RatP w x s m k) (hk : 0 < k) (h1 : (digs m).length < 10000000) (h2 : (digs k).length < 10000000) : Calls Tryz.prog 83 #[x] w (Go.Proofs.YtccabfblgjcboaaGreatDoor.Val w (str (rtext s m k))) := by
  have l1 := ntext_len4 m
  have ci : k = 1 ∨ cmpN k 1 = 1 := by
    rcases Nat.lt_or_ge 1 k with h | h
    · right; unfold cmpN; rw [if_neg (by omega), if_pos (by omega)]
    · left; omega
  have c0 : cmpN 1 1 = 0 := rfl
  cases s with
  | false =>
    have hv : ∀ a, PatsAre (C_text m k a ([45] ++ ntext m) w) w [rl false 0 1] [x] := fun a => ⟨_, _, rfl, (rl_is2 rfl rfl).2 hx, rfl⟩
    rcases ci with rfl | hi
    · refine (run_mk (text_C _ _ _ _ _) (text_T m 1 (ntext m) w h1 h2 (by omega) c0 (c := 2) rfl) 83 Tryz.f83 [rl false 0 1] (.val (op 2)) 60 Tryz.func83 rfl rfl rfl (by kernel_rfl) [x] (hv _)).mono ?_
      rintro e w' ⟨v, rfl, hv, hb⟩
      rw [(op_is (x := str (ntext m)) rfl).1 hv]
      exact ⟨by simp [rtext], hb⟩
    · have hk1 : k ≠ 1 := by rintro rfl; rw [c0] at hi; cases hi
      refine (run_mk (text_C _ _ _ _ _) (text_T m k (ntext m) w h1 h2 (by omega) hi (c := 2) rfl) 83 Tryz.f83 [rl false 0 1] (.val (op 7)) 60 Tryz.func83 rfl rfl rfl (by kernel_rfl) [x] (hv _)).mono ?_
      rintro e w' ⟨v, rfl, hv, hb⟩
      rw [(op_is (x := str ((ntext m ++ [47]) ++ ntext k)) rfl).1 hv]
      exact ⟨by simp [rtext, hk1], hb⟩
  | true =>
    have hv : ∀ a, PatsAre (C_text m k a ([45] ++ ntext m) w) w [rl true 0 1] [x] := fun a => ⟨_, _, rfl, (rl_is2 rfl rfl).2 hx, rfl⟩
    rcases ci with rfl | hi
    · refine (run_mk (text_C _ _ _ _ _) (text_T m 1 ([45] ++ ntext m) w h1 h2 (by simp; omega) c0 (c := 3) rfl) 83 Tryz.f83 [rl true 0 1] (.val (op 3)) 60 Tryz.func83 rfl rfl rfl (by kernel_rfl) [x] (hv _)).mono ?_
      rintro e w' ⟨v, rfl, hv, hb⟩
      rw [(op_is (x := str ([45] ++ ntext m)) rfl).1 hv]
      exact ⟨by simp [rtext], hb⟩
    · have hk1 : k ≠ 1 := by rintro rfl; rw [c0] at hi; cases hi
      refine (run_mk (text_C _ _ _ _ _) (text_T m k ([45] ++ ntext m) w h1 h2 (by simp; omega) hi (c := 3) rfl) 83 Tryz.f83 [rl true 0 1] (.val (op 7)) 60 Tryz.func83 rfl rfl rfl (by kernel_rfl) [x] (hv _)).mono ?_
      rintro e w' ⟨v, rfl, hv, hb⟩
      rw [(op_is (x := str ((([45] ++ ntext m) ++ [47]) ++ ntext k)) rfl).1 hv]
      exact ⟨by simp [rtext, hk1], hb⟩
theorem rtext_ok (x : Value) (r : Rat) (k : Nat) (w : World) (hx : RQ w x r) (z : Siz r k) (hk : k ≤ 1000000) : Calls Tryz.prog 83 #[x] w (Go.Proofs.YtccabfblgjcboaaGreatDoor.Val w (str (qtext r))) := by
  have l1 := digs_siz z.1
  have l2 := digs_siz z.2
  rw [← rtext_q]
  exact text_ok _ x _ _ w hx r.den_pos (by omega) (by omega)
end Sym
open Go Go.RowKit Go.Proofs Lim
namespace Sym
section
variable {csz : List Nat} {numc : List Bool} {okT : List Nat} {cl : List Cl} {w0 : World} {w : World} {p4 p5 : Pat} {s : Bool} {m k : Nat} {n i : Value} {a : Act} {r : Rat} {c d : Nat}
end
end Sym
open Go Go.RowKit Go.Proofs Lim
theorem qtext_inj {r s : Rat} (h : qtext r = qtext s) : r = s := by
  have nd : ∀ {c : UInt8}, isDig c = true → c ≠ 45 ∧ c ≠ 47 := by
    intro c hc
    constructor <;> (rintro rfl; revert hc; decide)
  have hh : ∀ (n : Nat) (l : List UInt8), (ntext n ++ l).head? ≠ some 45 := by
    intro n l e
    cases hn : ntext n with
    | nil => exact ntext_ne n hn
    | cons c t =>
      rw [hn] at e
      have : c = 45 := by simpa using e
      exact (nd (ntext_dig n c (by rw [hn]; simp))).1 this
  have cut : ∀ (l m a b : List UInt8), (∀ c ∈ l, c ≠ 47) → (∀ c ∈ m, c ≠ 47) → (a = [] ∨ a.head? = some 47) → (b = [] ∨ b.head? = some 47) → l ++ a = m ++ b → l = m ∧ a = b := by
    intro l
    induction l with
    | nil =>
      intro m a b _ hm ha hb e
      cases m with
      | nil => exact ⟨rfl, e⟩
      | cons c m =>
        exfalso
        have e : a = c :: (m ++ b) := e
        rcases ha with rfl | ha
        · cases e
        · rw [e] at ha
          have : c = 47 := by simpa using ha
          exact hm c (by simp) this
    | cons c l ih =>
      intro m a b hl hm ha hb e
      cases m with
      | nil =>
        exfalso
        have e : c :: (l ++ a) = b := e
        rcases hb with rfl | hb
        · cases e
        · rw [← e] at hb
          have : c = 47 := by simpa using hb
          exact hl c (by simp) this
      | cons d m =>
        have e : c :: (l ++ a) = d :: (m ++ b) := e
        injection e with e1 e2
        obtain ⟨q1, q2⟩ := ih m a b (fun x hx => hl x (by simp [hx])) (fun x hx => hm x (by simp [hx])) ha hb e2
        exact ⟨by rw [e1, q1], q2⟩
  have tl : ∀ d : Nat, (if d = 1 then ([] : List UInt8) else 47 :: ntext d) = [] ∨ (if d = 1 then ([] : List UInt8) else 47 :: ntext d).head? = some 47 := by
    intro d
    split
    · exact .inl rfl
    · exact .inr rfl
  have key : ∀ (a b : Rat), ntext a.num.natAbs ++ (if a.den = 1 then [] else 47 :: ntext a.den) = ntext b.num.natAbs ++ (if b.den = 1 then [] else 47 :: ntext b.den) → a.num.natAbs = b.num.natAbs ∧ a.den = b.den := by
    intro a b e
    obtain ⟨e1, e2⟩ := cut _ _ _ _ (fun c hc => (nd (ntext_dig _ c hc)).2) (fun c hc => (nd (ntext_dig _ c hc)).2) (tl a.den) (tl b.den) e
    refine ⟨ntext_inj e1, ?_⟩
    split at e2 <;> split at e2
    · omega
    · cases e2
    · cases e2
    · injection e2 with _ e2
      exact ntext_inj e2
  unfold qtext at h
  rw [List.append_assoc, List.append_assoc] at h
  by_cases h1 : r.num < 0 <;> by_cases h2 : s.num < 0
  · rw [if_pos h1, if_pos h2] at h
    obtain ⟨q1, q2⟩ := key r s (List.append_cancel_left h)
    exact Rat.ext (by omega) q2
  · rw [if_pos h1, if_neg h2] at h
    exact absurd (congrArg List.head? h).symm (hh _ _)
  · rw [if_neg h1, if_pos h2] at h
    exact absurd (congrArg List.head? h) (hh _ _)
  · rw [if_neg h1, if_neg h2] at h
    obtain ⟨q1, q2⟩ := key r s h
    exact Rat.ext (by omega) q2
namespace Sym
section
variable {csz : List Nat} {numc : List Bool} {okT : List Nat} {nt : Nat} {cl : List Cl} {w0 : World} {w : World} {v z : Value} {p1 p2 p3 p4 : Pat} {res : RPat} {c d c1 c2 c3 c4 c5 c6 : Nat} {a b l : List UInt8} {r s : Rat} {k k1 k2 : Nat}
theorem e_eqs {e : Bool} (h1 : PV csz numc okT nt cl w0 p1 (str a)) (h2 : PV csz numc okT nt cl w0 p2 (str b)) (he : decide (a = b) = e) : V csz numc okT nt cl w0 (.bin .eql 9) [p1, p2] (.val (vp (.bool e))) := by
  intro w ρ oo xs ho hb hvs
  obtain ⟨x, y, u, hop, rfl⟩ := hd_bin ho
  obtain ⟨v1, _, e1, h4, v2, _, e2, h5, e3⟩ := hvs
  obtain rfl := h1 _ _ h4
  obtain rfl := h2 _ _ h5
  subst e2
  simp only [List.map_cons, List.map_nil, List.cons.injEq] at e1
  obtain ⟨ea, eb, _⟩ := e1
  refine ⟨_, w, ?_, vp_r _ _ _, Below.refl _ _⟩
  show (execOp ρ oo).run Tryz.prog w = _
  have hg : (eqGuard .eql 9 x y (str a) (str b)).run Tryz.prog w = .ok () w := rfl
  have hbe : (a == b) = e := by
    rw [← he]
    by_cases h : a = b
    · subst h; simp
    · simp [h]
  have hr : (Go.binOp .eql 9 (str a) (str b)).run Tryz.prog w = .ok (.bool e) w := by
    show (Op.stringOp .eql ⟨a.toArray⟩ ⟨b.toArray⟩).run Tryz.prog w = _
    unfold Op.stringOp
    simp only [ByteArray.toList_eq]
    show Result.ok (Value.bool (a == b)) w = _
    rw [hbe]
  simp only [execOp, hop, ea, eb, Sem.run_bind, hg, hr, Result.andThen_ok]
  rfl
theorem e_text (h1 : PQ csz numc okT nt cl w0 p1 r k) (hk : k ≤ 1000000) (h3 : RV csz numc okT nt cl w0 res (str (qtext r))) : V csz numc okT nt cl w0 (.call 14) [p1] res := by
  refine ⟨enters_of Tryz.func14 (by kernel_rfl) rfl, fun w vs hb hvs => ?_⟩
  obtain ⟨v1, _, rfl, h4, rfl⟩ := hvs
  have h4 := h1 _ _ h4
  refine (text_q v1 r k w h4.1 h4.2 (by omega)).mono ?_
  rintro e w' ⟨rfl, hb⟩
  exact ⟨_, rfl, h3 w', hb⟩
theorem e_rtext (h1 : PR csz numc okT nt cl w0 p1 r k) (hk : k ≤ 1000000) (h3 : RV csz numc okT nt cl w0 res (str (qtext r))) : V csz numc okT nt cl w0 (.call 83) [p1] res := by
  refine ⟨enters_of Tryz.func83 (by kernel_rfl) rfl, fun w vs hb hvs => ?_⟩
  obtain ⟨v1, _, rfl, h4, rfl⟩ := hvs
  have h4 := h1 _ _ h4
  refine (rtext_ok v1 r k w h4.1 h4.2 hk).mono ?_
  rintro e w' ⟨rfl, hb⟩
  exact ⟨_, rfl, h3 w', hb⟩
end
theorem qrT : (∀ t ∈ [26, 33], t ≠ 23) ∧ (∀ t ∈ [26, 33], t ≠ 3) := by decide
theorem same_ok (x y : Value) (r s : Rat) (k : Nat) (w : World) (hx : IsQ w x r) (hy : RQ w y s) (z1 : Siz r k) (z2 : Siz s k) (hk : k ≤ 1000000) : Calls Tryz.prog 13 #[x, y] w (Go.Proofs.YtccabfblgjcboaaGreatDoor.Val w (.bool (decide (r = s)))) := by
  have hC : (mkC [4, 3, 1, 1] [true, true, true, true] [26, 33] 10 [clQ r k, clR s k, clV (str (qtext r)), clV (str (qtext s))] w).Ok := mkC_ok (oks_cons (clQ_ok qrT.1 _ _) (oks_cons (clR_ok qrT.2 _ _) (oks_cons (clVs_ok _) (oks_cons (clVs_ok _) oks_nil)))) rfl rfl
  have hT : ∀ e, decide (r = s) = e → ∀ t ∈ ([⟨.call 14, [qp 0], .val (op 2)⟩, ⟨.call 83, [rq 1], .val (op 3)⟩, ⟨.bin .eql 9, [op 2, op 3], .val (vp (.bool e))⟩] : List Ent), t.Valid (mkC [4, 3, 1, 1] [true, true, true, true] [26, 33] 10 [clQ r k, clR s k, clV (str (qtext r)), clV (str (qtext s))] w) := fun e he =>
    forall_cons (e_text (pq rfl) hk (rv rfl)) (forall_cons (e_rtext (pr rfl) hk (rv rfl)) (forall_cons (e_eqs (pv rfl) (pv rfl) (by rw [← he]; congr 1; exact propext ⟨fun h => qtext_inj h, fun h => by rw [h]⟩)) forall_nil))
  have hv : PatsAre (mkC [4, 3, 1, 1] [true, true, true, true] [26, 33] 10 [clQ r k, clR s k, clV (str (qtext r)), clV (str (qtext s))] w) w [qp 0, rq 1] [x, y] := ⟨_, _, rfl, (qp_is rfl).2 ⟨hx, z1⟩, _, _, rfl, (rq_is rfl).2 ⟨hy, z2⟩, rfl⟩
  cases he : decide (r = s) with
  | true =>
    refine (run_mk hC (hT _ he) 13 Tryz.f13 [qp 0, rq 1] (.val (vp (.bool true))) 60 Tryz.func13 rfl rfl rfl (by kernel_rfl) [x, y] hv).mono ?_
    rintro e w' ⟨v, rfl, hv, hb⟩
    rw [val_of hv]
    exact ⟨rfl, hb⟩
  | false =>
    refine (run_mk hC (hT _ he) 13 Tryz.f13 [qp 0, rq 1] (.val (vp (.bool false))) 60 Tryz.func13 rfl rfl rfl (by kernel_rfl) [x, y] hv).mono ?_
    rintro e w' ⟨v, rfl, hv, hb⟩
    rw [val_of hv]
    exact ⟨rfl, hb⟩
section
variable {csz : List Nat} {numc : List Bool} {okT : List Nat} {nt : Nat} {cl : List Cl} {w0 : World} {w : World} {v z : Value} {p1 p2 p3 p4 : Pat} {res : RPat} {c d c1 c2 c3 c4 c5 c6 : Nat} {a b l : List UInt8} {r s : Rat} {k k1 k2 : Nat}
theorem e_same {e : Bool} (h1 : PQ csz numc okT nt cl w0 p1 r k1) (h2 : PR csz numc okT nt cl w0 p2 s k2) (hk : fits (k1 + k2) 1000000 = true) (he : decide (r = s) = e) : V csz numc okT nt cl w0 (.call 13) [p1, p2] (.val (vp (.bool e))) := by
  subst he
  have hk := fits_le hk
  refine ⟨enters_of Tryz.func13 (by kernel_rfl) rfl, fun w vs hb hvs => ?_⟩
  obtain ⟨v1, _, rfl, h4, v2, _, rfl, h5, rfl⟩ := hvs
  have h4 := h1 _ _ h4
  have h5 := h2 _ _ h5
  refine (same_ok v1 v2 r s (k1 + k2) w h4.1 h5.1 (h4.2.le (by omega)) (h5.2.le (by omega)) (by omega)).mono ?_
  rintro e w' ⟨rfl, hb'⟩
  exact ⟨_, rfl, vp_r _ _ _, hb'⟩
end
end Sym
open Go Go.RowKit Go.Proofs Lim
namespace Sym
section
variable {csz : List Nat} {numc : List Bool} {okT : List Nat} {nt : Nat} {cl : List Cl} {w0 : World} {w : World} {v z : Value} {p1 p2 p3 p4 : Pat} {res : RPat} {c d c1 c2 c3 c4 c5 c6 : Nat} {a b l : List UInt8}
theorem hd_si {o : Oper} {t : Nat} {xs : List Operand} (h : opHd o = some (.si t, xs)) : ∃ x y, o.op = .index t x y ∧ xs = [x, y] := by
  unfold opHd at h
  split at h <;> first
    | (rename_i h0; simp only [Option.some.injEq, Prod.mk.injEq, Hd.si.injEq, reduceCtorEq, false_and] at h; try (obtain ⟨rfl, rfl⟩ := h; exact ⟨_, _, h0, rfl⟩))
    | (split at h <;> simp at h)
    | simp at h
theorem e_slen {n : Int} (hn : ((l.length : Nat) : Int) = n) (h1 : PV csz numc okT nt cl w0 p1 (str l)) (h3 : RV csz numc okT nt cl w0 res (ii n)) : V csz numc okT nt cl w0 (.blt .len [9] 3) [p1] res := by
  intro w ρ oo xs ho hb hvs
  obtain ⟨c, hop, hc, hat, hty, rfl⟩ := hd_blt ho
  obtain ⟨v1, _, e1, h4, e2⟩ := hvs
  obtain rfl := h1 _ _ h4
  subst e2
  refine ⟨_, w, ?_, h3 w, Below.refl _ _⟩
  have he : c.args.map ρ = #[str l] := by
    apply Array.ext'
    simpa using e1
  have hr := run_len_string (P := Tryz.prog) w 9 3 ⟨l.toArray⟩ und_str
  have hs : goInt (⟨l.toArray⟩ : ByteArray).size = ii n := by
    show Value.int .i64 ((l.length : Nat) : Int) = _
    rw [hn]
  rw [hs] at hr
  show (execOp ρ oo).run Tryz.prog w = _
  simp only [execOp, hop, resolve, hc, he, Sem.run_bind, Sem.run_pure, Result.andThen_ok, invoke, builtin, hat, hty]
  simp [Sem.run_bind, hr, Result.andThen]
theorem e_six {i : Nat} {x : Nat} (hi : i < l.length) (hx : (l.getD i 0).toNat = x) (h1 : PV csz numc okT nt cl w0 p1 (str l)) (h2 : PV csz numc okT nt cl w0 p2 (ii (i : Int))) (h3 : RV csz numc okT nt cl w0 res (.int .u8 (x : Int))) : V csz numc okT nt cl w0 (.si 9) [p1, p2] res := by
  intro w ρ oo xs ho hb hvs
  obtain ⟨y, u, hop, rfl⟩ := hd_si ho
  obtain ⟨v1, _, e1, h4, v2, _, e2, h5, e3⟩ := hvs
  obtain rfl := h1 _ _ h4
  obtain rfl := h2 _ _ h5
  subst e2
  simp only [List.map_cons, List.map_nil, List.cons.injEq] at e1
  obtain ⟨ea, eb, _⟩ := e1
  refine ⟨_, w, ?_, h3 w, Below.refl _ _⟩
  have hr := run_index_string (P := Tryz.prog) w 9 ⟨l.toArray⟩ .i64 (i : Int) und_str
  have hs : (0 : Int) ≤ (i : Int) ∧ (i : Int) < ((⟨l.toArray⟩ : ByteArray).size : Nat) := ⟨by omega, by show (i : Int) < ((l.length : Nat) : Int); omega⟩
  rw [dif_pos hs] at hr
  have hv : ((⟨l.toArray⟩ : ByteArray)[((i : Int)).toNat]'(by have := hs.2; omega)) = l.getD i 0 := by
    show l.toArray[((i : Int)).toNat]'_ = _
    simp [List.getD, hi]
  rw [hv, hx] at hr
  show (execOp ρ oo).run Tryz.prog w = _
  simp only [execOp, hop, ea, eb, Sem.run_bind, hr, Result.andThen_ok]
  rfl
theorem e_ltb {t : Nat} {k : IntKind} {x y : Int} {e : Bool} (h1 : PV csz numc okT nt cl w0 p1 (.int k x)) (h2 : PV csz numc okT nt cl w0 p2 (.int k y)) (he : decide (x > y) = e) (h3 : RV csz numc okT nt cl w0 res (.bool e)) : V csz numc okT nt cl w0 (.bin .gtr t) [p1, p2] res :=
  e_bin h1 h2 h3 (fun w => by subst he; cases k <;> rfl)
theorem e_sub8 {t : Nat} {x y u : Int} (hz : x - y = u) (h1 : PV csz numc okT nt cl w0 p1 (.int .u8 x)) (h2 : PV csz numc okT nt cl w0 p2 (.int .u8 y)) (h3 : RV csz numc okT nt cl w0 res (.int .u8 u)) (hr : 0 ≤ u ∧ u ≤ 255) : V csz numc okT nt cl w0 (.bin .sub t) [p1, p2] res :=
  e_bin h1 h2 h3 (fun w => by
    show Result.ok (Value.int .u8 (IntKind.u8.wrap (x - y))) w = _
    rw [hz]
    have : IntKind.u8.wrap u = u := by show u % 256 = u; omega
    rw [this])
end
theorem isDig_iff (c : UInt8) : isDig c = (!(decide (c.toNat < 48)) && !(decide (57 < c.toNat))) := by
  unfold isDig
  by_cases h1 : c.toNat < 48 <;> by_cases h2 : 57 < c.toNat <;> simp [h1, h2] <;> omega
abbrev vl_nat1 (l : List UInt8) (z : Value) (i : Nat) : List Value := [str l, z, ii (i : Int), ii (l.length : Int), .int .u8 (((l.getD i 0).toNat : Nat) : Int), ii ((i + 1 : Nat) : Int)]
theorem nat1_one {z : Value} (hz : z.oneCell' = true) (l : List UInt8) (i : Nat) : ∀ v ∈ vl_nat1 l z i, v.oneCell' = true := one_cons rfl (one_cons hz (one_cons rfl (one_cons rfl (one_cons rfl (one_cons rfl one_nil)))))
def t_nat1a (b : Bool) : List Ent := [⟨.blt .len [9] 3, [op 0], .val (op 3)⟩, ⟨.bin .lss 3, [op 2, op 3], .val (vp (.bool b))⟩, ⟨.bin .add 3, [op 2, vp (ii 1)], .val (op 5)⟩]
def t_nat1b (b1 b2 : Bool) : List Ent := [⟨.si 9, [op 0, op 2], .val (op 4)⟩, ⟨.bin .lss 5, [op 4, vp (.int .u8 48)], .val (vp (.bool b1))⟩, ⟨.bin .gtr 5, [op 4, vp (.int .u8 57)], .val (vp (.bool b2))⟩]
theorem nat1_a (l : List UInt8) (z : Value) (i : Nat) (hi : i < 1000000000) (w : World) {b : Bool} (h : decide (i < l.length) = b) : ∀ t ∈ t_nat1a b, t.Valid (CV 58 (vl_nat1 l z i) w) :=
  forall_cons (e_slen rfl (pvW rfl) (rvW rfl)) (forall_cons (e_lss (pvW rfl) (pvW rfl) (by rw [← h]; congr 1; apply propext; omega)) (forall_cons (e_add (by omega) (pvW rfl) pvl (rvW rfl) (by omega)) forall_nil))
theorem nat1_b (l : List UInt8) (z : Value) (i : Nat) (hi : i < l.length) (w : World) {b1 b2 : Bool} (h1 : decide ((l.getD i 0).toNat < 48) = b1) (h2 : decide (57 < (l.getD i 0).toNat) = b2) : ∀ t ∈ t_nat1b b1 b2, t.Valid (CV 58 (vl_nat1 l z i) w) :=
  forall_cons (e_six hi rfl (pvW rfl) (pvW rfl) (rvW rfl)) (forall_cons (e_lss (pvW rfl) pvl (by rw [← h1]; congr 1; apply propext; omega)) (forall_cons (e_gtr (pvW rfl) pvl (by rw [← h2]; congr 1; apply propext; omega)) forall_nil))
noncomputable def b_nat : Code := bodyOf Tryz.f81
noncomputable def l1_nat : Code := inner (inner (seqR (seqL (seqR (seqR b_nat)))))
noncomputable def l2_nat : Code := inner (inner (seqR (seqL (seqR (seqR (seqR b_nat))))))
noncomputable def l3_nat : Code := inner (inner (seqR (seqL (seqR (inner (seqL (seqR l2_nat)))))))
theorem dval_take_succ {l : List UInt8} {i : Nat} (hi : i < l.length) (E : Nat) (hE : E ≤ i) : dval ((l.take (i + 1)).drop E) = 10 * dval ((l.take i).drop E) + ((l.getD i 0).toNat - 48) := by
  have : (l.take (i + 1)).drop E = (l.take i).drop E ++ [l.getD i 0] := by
    rw [List.take_add_one, List.getElem?_eq_getElem hi]
    rw [List.drop_append_of_le_length (by rw [List.length_take]; omega)]
    congr 1
    simp [List.getD, hi]
  rw [this, dval_snoc]
theorem dval_group (l : List UInt8) (hd : ∀ c ∈ l, isDig c = true) (i E : Nat) (hi : i ≤ l.length) (h : i ≤ E + 4) : dval ((l.take i).drop E) < 10000 := by
  have h1 := dval_lt ((l.take i).drop E) (fun c hc => hd c (List.mem_of_mem_take (List.mem_of_mem_drop hc)))
  have h2 : ((l.take i).drop E).length ≤ 4 := by rw [List.length_drop, List.length_take]; omega
  exact Nat.lt_of_lt_of_le h1 (Nat.pow_le_pow_right (by decide) h2)
theorem dval_take_split (l : List UInt8) (e : Nat) (he : e ≤ l.length) : dval (l.take e) = 10000 * dval (l.take (e - 4)) + dval ((l.take e).drop (e - 4)) := by
  have h : l.take e = l.take (e - 4) ++ (l.take e).drop (e - 4) := by
    have := List.take_append_drop (e - 4) (l.take e)
    rw [List.take_take, Nat.min_eq_left (by omega)] at this
    exact this.symm
  have h2 := congrArg dval h
  rw [dval_append] at h2
  rcases Nat.lt_or_ge e 4 with h4 | h4
  · have e0 : e - 4 = 0 := by omega
    rw [e0] at h2 ⊢
    simp [dval_nil] at h2 ⊢
  · have hl : ((l.take e).drop (e - 4)).length = 4 := by rw [List.length_drop, List.length_take]; omega
    rw [hl] at h2
    exact h2
abbrev vl_nat3 (l : List UInt8) (z : Value) (e : Int) (E i d : Nat) : List Value := [str l, z, ii e, ii (d : Int), ii (i : Int), ii ((10 * d : Nat) : Int), .int .u8 (((l.getD i 0).toNat : Nat) : Int), .int .u8 (((l.getD i 0).toNat - 48 : Nat) : Int), ii (((l.getD i 0).toNat - 48 : Nat) : Int), ii ((10 * d + ((l.getD i 0).toNat - 48) : Nat) : Int), ii ((i + 1 : Nat) : Int), ii (e - 4), ii (E : Int)]
theorem nat3_one {z : Value} (hz : z.oneCell' = true) (l : List UInt8) (e : Int) (E i d : Nat) : ∀ v ∈ vl_nat3 l z e E i d, v.oneCell' = true :=
  one_cons rfl (one_cons hz (one_cons rfl (one_cons rfl (one_cons rfl (one_cons rfl (one_cons rfl (one_cons rfl (one_cons rfl (one_cons rfl (one_cons rfl (one_cons rfl (one_cons rfl one_nil))))))))))))
def t_nat3a (b : Bool) : List Ent := [⟨.bin .lss 3, [op 4, op 2], .val (vp (.bool b))⟩]
def t_nat3b : List Ent := [⟨.bin .mul 3, [vp (ii 10), op 3], .val (op 5)⟩, ⟨.si 9, [op 0, op 4], .val (op 6)⟩, ⟨.bin .sub 5, [op 6, vp (.int .u8 48)], .val (op 7)⟩, ⟨.cv 5 3, [op 7], .val (op 8)⟩, ⟨.bin .add 3, [op 5, op 8], .val (op 9)⟩, ⟨.bin .add 3, [op 4, vp (ii 1)], .val (op 10)⟩]
theorem nat3_b (l : List UInt8) (z : Value) (e : Int) (E i d : Nat) (hi : i < l.length) (hl : l.length < 1000000) (hd : d < 10000) (hc : isDig (l.getD i 0) = true) (w : World) : ∀ t ∈ t_nat3b, t.Valid (CV 58 (vl_nat3 l z e E i d) w) := by
  unfold isDig at hc
  simp only [Bool.and_eq_true, decide_eq_true_eq] at hc
  exact forall_cons (e_mul (by omega) pvl (pvW rfl) (rvW rfl) (by omega)) (forall_cons (e_six hi rfl (pvW rfl) (pvW rfl) (rvW rfl)) (forall_cons (e_sub8 (by omega) (pvW rfl) pvl (rvW rfl) (by omega)) (forall_cons (e_cv (by kernel_rfl) (by kernel_rfl) (by kernel_rfl) (pvW rfl) (rvW rfl) (by rw [IntKind.wrap_i64]; omega))
    (forall_cons (e_add (by omega) (pvW rfl) (pvW rfl) (rvW rfl) (by omega)) (forall_cons (e_add (by omega) (pvW rfl) pvl (rvW rfl) (by omega)) forall_nil)))))
def t_nat3c (b : Bool) : List Ent := [⟨.bin .gtr 3, [op 2, vp (ii 0)], .val (vp (.bool b))⟩, ⟨.bin .sub 3, [op 2, vp (ii 4)], .val (op 11)⟩, ⟨.blt .max [3, 3] 3, [vp (ii 0), op 11], .val (op 12)⟩]
theorem nat3_c (l : List UInt8) (z : Value) (e : Int) (E i d : Nat) (he : -100 ≤ e ∧ e < 1000000) (hE : (if e - 4 > 0 then e - 4 else 0) = (E : Int)) (w : World) {b : Bool} (hb : decide (0 < e) = b) : ∀ t ∈ t_nat3c b, t.Valid (CV 58 (vl_nat3 l z e E i d) w) :=
  forall_cons (e_gtr (pvW rfl) pvl hb) (forall_cons (e_sub rfl (pvW rfl) pvl (rvW rfl) (by omega)) (forall_cons (e_max pvl (pvW rfl) (by rw [hE]; exact rvW rfl)) forall_nil))
theorem nat_inner (l : List UInt8) (hd : ∀ c ∈ l, isDig c = true) (hl : l.length < 1000000) (z : Value) (hz : z.oneCell' = true) (n E : Nat) (hn : n ≤ l.length) (hE : E = n - 4) (hpos : 0 < n) (a : Act) (w : World) (hs : St' 58 (vl_nat3 l z (n : Int) E E 0) [(0, 0), (4, 1), (6, 2), (7, 3), (8, 4)] a) {Q : Exit → Act → World → Prop}
    (hQ : ∀ a' w', St' 58 (vl_nat3 l z (n : Int) E 0 (dval ((l.take n).drop E))) [(0, 0), (4, 1), (6, 2), (7, 3)] a' → Below w.heap.size w w' → Q .normal a' w') : (Code.block 4 (.loop l3_nat)).wp Tryz.prog Q a w := by
  refine while_is (Θ := Nat) (fun i a w1 => E ≤ i ∧ i ≤ n ∧ St' 58 (vl_nat3 l z (n : Int) E i (dval ((l.take i).drop E))) [(0, 0), (4, 1), (6, 2), (7, 3), (8, 4)] a ∧ Below w.heap.size w w1) (fun i => n - i) ?_ E ⟨Nat.le_refl _, by omega, ?_, Below.refl _ _⟩
  · rintro i a w1 ⟨h1, h2, hs, hb⟩
    have hg := dval_group l hd i E (by omega) (by omega)
    by_cases hi : i < n
    · have hT : ∀ w, ∀ t ∈ t_nat3a true, t.Valid (CV 58 (vl_nat3 l z (n : Int) E i (dval ((l.take i).drop E))) w) := fun w => forall_cons (e_lss (pvW rfl) (pvW rfl) (decide_eq_true (by omega))) forall_nil
      have hc : isDig (l.getD i 0) = true := by
        have hil : i < l.length := by omega
        have : l.getD i 0 = l[i] := by simp [List.getD, hil]
        rw [this]
        exact hd _ (List.getElem_mem hil)
      refine wp_seq (seg_v [(0, 0), (4, 1), (6, 2), (7, 3), (8, 4)] [(0, 0), (4, 1), (6, 2), (7, 3), (8, 4)] (n := 30) (x := .normal) (nat3_one hz _ _ _ _ _) (hT _) hs (by kernel_rfl) rfl rfl (fun a5 w5 hs hb5 => ?_))
      have hb := hb.trans (hb5.mono hb.size)
      refine wp_seq (wp_block (seg_v [(0, 0), (4, 1), (6, 2), (7, 3), (8, 4)] [(0, 0), (4, 1), (6, 2), (7, 9), (8, 4)] (n := 30) (x := .normal) (nat3_one hz _ _ _ _ _) (nat3_b l z n E i _ (by omega) hl hg hc _) hs (by kernel_rfl) rfl rfl (fun a6 w6 hs hb6 => ?_)))
      have hb := hb.trans (hb6.mono hb.size)
      show (seqR (seqR l3_nat)).wp Tryz.prog _ _ _
      refine seg_v [(0, 0), (4, 1), (6, 2), (7, 9), (8, 4)] [(0, 0), (4, 1), (6, 2), (7, 9), (8, 10)] (n := 30) (x := .normal) (nat3_one hz _ _ _ _ _) (nat3_b l z n E i _ (by omega) hl hg hc _) hs (by kernel_rfl) rfl rfl (fun a7 w7 hs hb7 => ?_)
      have hb := hb.trans (hb7.mono hb.size)
      refine ⟨i + 1, ⟨by omega, hi, ?_, hb⟩, by show n - (i + 1) < n - i; omega⟩
      rw [dval_take_succ (by omega) E h1]
      exact ⟨hs.defers, hs.size, hs.sl⟩
    · obtain rfl : i = n := by omega
      have hT : ∀ t ∈ t_nat3a false, t.Valid (CV 58 (vl_nat3 l z (i : Int) E i (dval ((l.take i).drop E))) w1) := forall_cons (e_lss (pvW rfl) (pvW rfl) (decide_eq_false (by omega))) forall_nil
      refine wp_seq (seg_v [(0, 0), (4, 1), (6, 2), (7, 3), (8, 4)] [(0, 0), (4, 1), (6, 2), (7, 3)] (n := 30) (x := .exit 4) (nat3_one hz _ _ _ _ _) hT hs (by kernel_rfl) rfl rfl (fun a5 w5 hs hb5 => ?_))
      exact hQ a5 w5 ⟨hs.defers, hs.size, hs.sl⟩ (hb.trans (hb5.mono hb.size))
  · have : dval ((l.take E).drop E) = 0 := by
      rw [List.drop_eq_nil_of_le (by rw [List.length_take]; omega)]
      rfl
    rw [this]
    exact hs
theorem natural_ok (l : List UInt8) (w : World) (hl : l.length < 100000) : Calls Tryz.prog 81 #[str l] w (fun e w' => ∃ v, e = .returned (.tuple #[v, .bool (okNat l)]) ∧ Dg w' v (if l.all isDig then digs (dval l) else []) ∧ Below w.heap.size w w') := by
  refine calls_v1 (nt := 58) (f := 81) Tryz.func81 (c := .seq (seqL b_nat) (.seq (seqL (seqR b_nat)) (.seq (.seq (seqL (seqL (seqR (seqR b_nat)))) (.block 0 (.loop l1_nat))) (.seq (.seq (seqL (seqL (seqR (seqR (seqR b_nat))))) (.block 2 (.loop l2_nat))) (seqR (seqR (seqR (seqR b_nat)))))))) rfl rfl rfl (str l) (fun a hs => ?_)
  have one1 : ∀ v ∈ [str l], v.oneCell' = true := one_cons rfl one_nil
  refine wp_seq (seg_v (T := []) [(0, 0)] [(0, 0)] (n := 30) (x := .normal) one1 forall_nil hs (by kernel_rfl) rfl rfl (fun a1 w1 hs hb1 => ?_))
  refine wp_seq ?_
  show (Code.region 1 [_, _].toArray false).wp Tryz.prog _ _ _
  refine empty_v [(0, 0)] (d := 9) (t := 4) hs rfl rfl rfl rfl rfl rfl rfl rfl rfl rfl (B := w.heap.size) hb1.size (fun z a2 w2 hz hown hs hb2 => ?_)
  have hb := hb1.trans (hb2.mono hb1.size)
  have hs : St' 58 [str l, z] [(4, 1), (0, 0)] a2 := ⟨hs.defers, hs.size, hz, hs.sl⟩
  have one2 : ∀ v ∈ [str l, z], v.oneCell' = true := one_cons rfl (one_cons hown.one one_nil)
  refine wp_seq (wp_seq (seg_vl (T := []) [(4, 1), (0, 0)] [(0, 0), (4, 1)] [(5, ii 0)] (n := 30) (x := .normal) one2 forall_nil hs (by kernel_rfl) rfl rfl (fun a3 w3 hs hl5 hb3 => ?_)))
  have hown := hown.below hb3
  have hb := hb.trans (hb3.mono hb.size)
  have hs : St' 58 (vl_nat1 l z 0) [(0, 0), (4, 1), (5, 2)] a3 := ⟨hs.defers, hs.size, hs.sl.1, hs.sl.2.1, hl5.1, trivial⟩
  refine while_is (Θ := Nat) (fun i a w1 => i ≤ l.length ∧ (l.take i).all isDig = true ∧ St' 58 (vl_nat1 l z i) [(0, 0), (4, 1), (5, 2)] a ∧ Own w.heap.size w1 z [] ∧ Below w.heap.size w w1) (fun i => l.length - i) ?_ 0 ⟨Nat.zero_le _, rfl, hs, hown, hb⟩
  rintro i a w1 ⟨hi, hall, hs, hown, hb⟩
  have one := nat1_one hown.one l i
  by_cases hend : i < l.length
  · refine wp_seq (seg_v [(0, 0), (4, 1), (5, 2)] [(0, 0), (4, 1), (5, 2)] (n := 30) (x := .normal) one (nat1_a l z i (by omega) w1 (decide_eq_true hend)) hs (by kernel_rfl) rfl rfl (fun a5 w5 hs hb5 => ?_))
    have hown := hown.below hb5
    have hb := hb.trans (hb5.mono hb.size)
    have hci : l.getD i 0 = l[i] := by simp [List.getD, hend]
    by_cases hdg : isDig (l.getD i 0) = true
    · have key : ∀ {Q' : Exit → Act → World → Prop}, (∀ a' w', St' 58 (vl_nat1 l z i) [(0, 0), (4, 1), (5, 2)] a' → Below w5.heap.size w5 w' → Q' .normal a' w') → (inner (seqL (seqR l1_nat))).wp Tryz.prog Q' a5 w5 := by
        intro Q' hQ'
        rw [isDig_iff] at hdg
        cases h1 : decide ((l.getD i 0).toNat < 48) <;> cases h2 : decide (57 < (l.getD i 0).toNat) <;> rw [h1, h2] at hdg
        · exact seg_v [(0, 0), (4, 1), (5, 2)] [(0, 0), (4, 1), (5, 2)] (n := 30) (x := .normal) one (nat1_b l z i hend w5 h1 h2) hs (by kernel_rfl) rfl rfl hQ'
        all_goals cases hdg
      refine wp_seq (wp_block (key (fun a6 w6 hs hb6 => ?_)))
      have hown := hown.below hb6
      have hb := hb.trans (hb6.mono hb.size)
      show (seqR (seqR l1_nat)).wp Tryz.prog _ _ _
      refine seg_v [(0, 0), (4, 1), (5, 2)] [(0, 0), (4, 1), (5, 5)] (n := 30) (x := .normal) one (nat1_a l z i (by omega) w6 (decide_eq_true hend)) hs (by kernel_rfl) rfl rfl (fun a7 w7 hs hb7 => ?_)
      have hown := hown.below hb7
      have hb := hb.trans (hb7.mono hb.size)
      refine ⟨i + 1, ⟨hend, ?_, ⟨hs.defers, hs.size, hs.sl⟩, hown, hb⟩, by show l.length - (i + 1) < l.length - i; omega⟩
      rw [List.take_add_one, List.getElem?_eq_getElem hend, List.all_append, hall]
      rw [hci] at hdg
      simp [hdg]
    · have hf : l.all isDig = false := by
        cases h : l.all isDig with
        | false => rfl
        | true =>
          exfalso
          apply hdg
          rw [hci]
          exact List.all_eq_true.1 h _ (List.getElem_mem hend)
      have hok : okNat l = false := by unfold okNat; rw [hf, Bool.and_false]
      have fin : ∀ a6 w6, St' 58 (vl_nat1 l z i) [(2, 1)] a6 → Ll a6 [(3, .bool false)] → Below w5.heap.size w5 w6 → bodyPost Tryz.prog Tryz.f81 (fun e w' => ∃ v, e = .returned (.tuple #[v, .bool (okNat l)]) ∧ Dg w' v (if l.all isDig then digs (dval l) else []) ∧ Below w.heap.size w w') .ret a6 w6 := by
        intro a6 w6 hs hl3 hb6
        refine ret_v2 rfl hs.defers hs.sl.1 hl3.1 ⟨z, by rw [hok]; rfl, ?_, hb.trans (hb6.mono hb.size)⟩
        rw [hf]
        exact (hown.below hb6).dg
      have key : ∀ {Q' : Exit → Act → World → Prop}, (∀ a' w', St' 58 (vl_nat1 l z i) [(2, 1)] a' → Ll a' [(3, .bool false)] → Below w5.heap.size w5 w' → Q' .ret a' w') → (inner (seqL (seqR l1_nat))).wp Tryz.prog Q' a5 w5 := by
        intro Q' hQ'
        rw [isDig_iff] at hdg
        cases h1 : decide ((l.getD i 0).toNat < 48) <;> cases h2 : decide (57 < (l.getD i 0).toNat) <;> rw [h1, h2] at hdg
        · exact absurd rfl hdg
        all_goals exact seg_vl [(0, 0), (4, 1), (5, 2)] [(2, 1)] [(3, .bool false)] (n := 30) (x := .ret) one (nat1_b l z i hend w5 h1 h2) hs (by kernel_rfl) rfl rfl hQ'
      exact wp_seq (wp_block (key (fun a6 w6 hs hl3 hb6 => fin a6 w6 hs hl3 hb6)))
  · refine wp_seq (seg_v [(0, 0), (4, 1), (5, 2)] [(0, 0), (4, 1)] (n := 30) (x := .exit 0) one (nat1_a l z i (by omega) w1 (decide_eq_false hend)) hs (by kernel_rfl) rfl rfl (fun a5 w5 hs hb5 => ?_))
    have hown := hown.below hb5
    have hb := hb.trans (hb5.mono hb.size)
    have hall : l.all isDig = true := by rw [List.take_of_length_le (by omega)] at hall; exact hall
    have hdl : ∀ c ∈ l, isDig c = true := List.all_eq_true.1 hall
    have hokN : okNat l = decide (0 < (l.length : Int)) := by
      unfold okNat
      rw [hall]
      cases l <;> simp
    show ((Code.seq (.seq (seqL (seqL (seqR (seqR (seqR b_nat))))) (.block 2 (.loop l2_nat))) (seqR (seqR (seqR (seqR b_nat)))))).wp Tryz.prog _ a5 w5
    have hs : St' 58 [str l, z, ii (l.length : Int)] [(0, 0), (4, 1)] a5 := ⟨hs.defers, hs.size, hs.sl⟩
    have one3 : ∀ v ∈ [str l, z, ii (l.length : Int)], v.oneCell' = true := one_cons rfl (one_cons hown.one (one_cons rfl one_nil))
    have hT : ∀ t ∈ [(⟨.blt .len [9] 3, [op 0], .val (op 2)⟩ : Ent)], t.Valid (CV 58 [str l, z, ii (l.length : Int)] w5) := forall_cons (e_slen rfl (pvW rfl) (rvW rfl)) forall_nil
    refine wp_seq (wp_seq (seg_v [(0, 0), (4, 1)] [(0, 0), (4, 1), (6, 2)] (n := 30) (x := .normal) one3 hT hs (by kernel_rfl) rfl rfl (fun a6 w6 hs hb6 => ?_)))
    have hown := hown.below hb6
    have hb := hb.trans (hb6.mono hb.size)
    refine while_is (Θ := Nat) (fun j a w1 => ∃ z ds, ds.length = j ∧ (∀ d ∈ ds, d < 10000) ∧ 4 * j ≤ l.length + 3 ∧ dval l = 10000 ^ j * dval (l.take (l.length - 4 * j)) + nat ds ∧ St' 58 [str l, z, ii ((l.length : Int) - 4 * (j : Int))] [(0, 0), (4, 1), (6, 2)] a ∧ Own w.heap.size w1 z ds ∧ Below w.heap.size w w1) (fun j => l.length + 4 - 4 * j) ?_ 0 ⟨z, [], rfl, by simp, by omega, by simp [nat], ⟨hs.defers, hs.size, by simpa using hs.sl⟩, hown, hb⟩
    rintro j a w1 ⟨z, ds, hdl9, hdd, hj, hdv, hs, hown, hb⟩
    by_cases hgo : 4 * j < l.length
    · obtain ⟨n, hn⟩ : ∃ n, l.length - 4 * j = n := ⟨_, rfl⟩
      have hni : (l.length : Int) - 4 * (j : Int) = (n : Int) := by omega
      rw [hn] at hdv
      rw [hni] at hs
      have hE : (if (n : Int) - 4 > 0 then (n : Int) - 4 else 0) = ((n - 4 : Nat) : Int) := by split <;> omega
      have hs : St' 58 (vl_nat3 l z (n : Int) (n - 4) 0 0) [(0, 0), (4, 1), (6, 2)] a := ⟨hs.defers, hs.size, hs.sl⟩
      refine wp_seq (seg_v [(0, 0), (4, 1), (6, 2)] [(0, 0), (4, 1), (6, 2)] (n := 30) (x := .normal) (nat3_one hown.one _ _ _ _ _) (nat3_c l z n (n - 4) 0 0 (by omega) hE w1 (decide_eq_true (by omega))) hs (by kernel_rfl) rfl rfl (fun a6 w6 hs hb6 => ?_))
      have hown := hown.below hb6
      have hb := hb.trans (hb6.mono hb.size)
      refine wp_seq (wp_block (wp_seq (seg_vl (T := []) [(0, 0), (4, 1), (6, 2)] [(0, 0), (4, 1), (6, 2)] [(7, ii 0)] (n := 30) (x := .normal) (nat3_one hown.one _ _ _ _ _) forall_nil hs (by kernel_rfl) rfl rfl (fun a7 w7 hs hl7 hb7 => ?_))))
      have hown := hown.below hb7
      have hb := hb.trans (hb7.mono hb.size)
      have hs : St' 58 (vl_nat3 l z (n : Int) (n - 4) (n - 4) 0) [(0, 0), (4, 1), (6, 2), (7, 3)] a7 := ⟨hs.defers, hs.size, hs.sl.1, hs.sl.2.1, hs.sl.2.2.1, hl7.1, trivial⟩
      refine wp_seq (wp_seq (seg_v [(0, 0), (4, 1), (6, 2), (7, 3)] [(0, 0), (4, 1), (6, 2), (7, 3), (8, 12)] (n := 30) (x := .normal) (nat3_one hown.one _ _ _ _ _) (nat3_c l z n (n - 4) (n - 4) 0 (by omega) hE w7 (decide_eq_true (by omega))) hs (by kernel_rfl) rfl rfl (fun a8 w8 hs hb8 => ?_)))
      have hown := hown.below hb8
      have hb := hb.trans (hb8.mono hb.size)
      refine nat_inner l hdl (by omega) z hown.one n (n - 4) (by omega) rfl (by omega) a8 w8 ⟨hs.defers, hs.size, hs.sl⟩ (fun a9 w9 hs hb9 => ?_)
      have hown := hown.below hb9
      have hb := hb.trans (hb9.mono hb.size)
      have hg := dval_group l hdl n (n - 4) (by omega) (by omega)
      have hsp := dval_take_split l n (by omega)
      generalize dval ((l.take n).drop (n - 4)) = g at hg hsp hs
      show (Code.region 15 (opsOf (seqR (seqR (inner (seqL (seqR l2_nat)))))).toArray false).wp Tryz.prog _ _ _
      have hs : St' 58 [str l, z, ii (n : Int), ii (g : Int), ii ((n : Int) - 4)] [(0, 0), (4, 1), (6, 2), (7, 3)] a9 := ⟨hs.defers, hs.size, hs.sl⟩
      have one5 : ∀ z : Value, z.oneCell' = true → ∀ v ∈ [str l, z, ii (n : Int), ii (g : Int), ii ((n : Int) - 4)], v.oneCell' = true := fun z hz => one_cons rfl (one_cons hz (one_cons rfl (one_cons rfl (one_cons rfl one_nil))))
      refine push_v (T := []) [(0, 0), (4, 1), (6, 2), (7, 3)] [(0, 0), (6, 2)] 3 (s := 49) (x := 51) (d := 52) (t := 4) (cd := 3) (z := z) (ds := ds) (dg := g) (one5 z hown.one) forall_nil hs 1 (by kernel_rfl) rfl rfl rfl rfl rfl rfl rfl rfl rfl rfl rfl rfl rfl rfl rfl hown hb.size (by omega) (fun z' a10 w10 h4 hown hs hb10 => ?_)
      have hb := hb.trans hb10
      have hs : St' 58 [str l, z', ii (n : Int), ii (g : Int), ii ((n : Int) - 4)] [(0, 0), (4, 1), (6, 2)] a10 := ⟨hs.defers, hs.size, hs.sl.1, h4, hs.sl.2.1, trivial⟩
      have hT : ∀ t ∈ [(⟨.bin .sub 3, [op 2, vp (ii 4)], .val (op 4)⟩ : Ent)], t.Valid (CV 58 [str l, z', ii (n : Int), ii (g : Int), ii ((n : Int) - 4)] w10) := forall_cons (e_sub rfl (pvW rfl) pvl (rvW rfl) (by omega)) forall_nil
      show (seqR (seqR l2_nat)).wp Tryz.prog _ _ _
      refine seg_v [(0, 0), (4, 1), (6, 2)] [(0, 0), (4, 1), (6, 4)] (n := 30) (x := .normal) (one5 z' hown.one) hT hs (by kernel_rfl) rfl rfl (fun a11 w11 hs hb11 => ?_)
      have hown := hown.below hb11
      have hb := hb.trans (hb11.mono hb.size)
      have e4 : (n : Int) - 4 = (l.length : Int) - 4 * ((j + 1 : Nat) : Int) := by omega
      refine ⟨j + 1, ⟨z', ds ++ [g], by simp [hdl9], ?_, by omega, ?_, ⟨hs.defers, hs.size, hs.sl.1, hs.sl.2.1, by rw [← e4]; exact hs.sl.2.2.1, trivial⟩, hown, hb⟩, by show l.length + 4 - 4 * (j + 1) < l.length + 4 - 4 * j; omega⟩
      · intro d hd
        rcases List.mem_append.1 hd with h | h
        · exact hdd d h
        · have : d = g := by simpa using h
          omega
      · rw [show l.length - 4 * (j + 1) = n - 4 by omega, nat_snoc, hdl9, hdv, hsp, Nat.pow_succ]
        grind
    · obtain ⟨e, he⟩ : ∃ e, (l.length : Int) - 4 * (j : Int) = e := ⟨_, rfl⟩
      rw [he] at hs
      have hs : St' 58 (vl_nat3 l z e 0 0 0) [(0, 0), (4, 1), (6, 2)] a := ⟨hs.defers, hs.size, hs.sl⟩
      refine wp_seq (seg_v [(0, 0), (4, 1), (6, 2)] [(0, 0), (4, 1)] (n := 30) (x := .exit 2) (nat3_one hown.one _ _ _ _ _) (nat3_c l z e 0 0 0 (by omega) (by rw [if_neg (by omega)]; rfl) w1 (decide_eq_false (by omega))) hs (by kernel_rfl) rfl rfl (fun a6 w6 hs hb6 => ?_))
      have hown := hown.below hb6
      have hb := hb.trans (hb6.mono hb.size)
      rw [show l.length - 4 * j = 0 by omega, List.take_zero, dval_nil, Nat.mul_zero, Nat.zero_add] at hdv
      have hs : St' 58 [str l, z, ii (l.length : Int), .bool (okNat l)] [(0, 0), (4, 1)] a6 := ⟨hs.defers, hs.size, hs.sl⟩
      have hC : (mkC [1, 1, 1, 1, 1] [false, false, false, false, false] [] 58 [clW (str l), clW z, clW (ii (l.length : Int)), clW (.bool (okNat l)), clF w.heap.size (strip ds)] w6).Ok := mkC_ok (oks_cons (clW_ok rfl) (oks_cons (clW_ok hown.one) (oks_cons (clW_ok rfl) (oks_cons (clW_ok rfl) (oks_cons (clF_ok noT _ _) oks_nil))))) rfl rfl
      have hT : ∀ t ∈ [(⟨.call 123, [op 1], .val (op 4)⟩ : Ent), ⟨.blt .len [9] 3, [op 0], .val (op 2)⟩, ⟨.bin .gtr 3, [op 2, vp (ii 0)], .val (op 3)⟩], t.Valid (mkC [1, 1, 1, 1, 1] [false, false, false, false, false] [] 58 [clW (str l), clW z, clW (ii (l.length : Int)), clW (.bool (okNat l)), clF w.heap.size (strip ds)] w6) :=
        forall_cons (e_trimF (pfW rfl hown.dg (fun k hk => (hown.lt k hk).1)) (rf rfl)) (forall_cons (e_slen rfl (pvW rfl) (rvW rfl)) (forall_cons (e_ltb (pvW rfl) pvl hokN.symm (rvW rfl)) forall_nil))
      show (seqR (seqR (seqR (seqR b_nat)))).wp Tryz.prog _ _ _
      refine seg_vf (vl := [str l, z, ii (l.length : Int), .bool (okNat l)]) [(0, 0), (4, 1)] [(3, 3)] (t := 2) (ds := strip ds) hC hT hs 4 (fun i hi => ?_) rfl (n := 30) (x := .ret) (by kernel_rfl) rfl rfl (fun a7 w7 v h2 hv hfr hs hb7 => ret_v2 rfl hs.defers h2 hs.sl.1 ⟨v, rfl, ?_, hb.trans (hb7.mono hb.size)⟩)
      · have hi : i < 4 := hi
        match i, hi with
        | 0, _ => rfl
        | 1, _ => rfl
        | 2, _ => rfl
        | 3, _ => rfl
      · rw [hall, if_pos rfl, hdv, digs_nat hdd]
        exact hv
end Sym
open Go Go.RowKit Go.Proofs Lim
namespace Sym
section
variable {csz : List Nat} {numc : List Bool} {okT : List Nat} {nt : Nat} {cl : List Cl} {w0 : World} {w : World} {v z : Value} {p1 p2 p3 p4 : Pat} {res : RPat} {c d c1 c2 c3 c4 c5 c6 : Nat} {a b l : List UInt8} {x : Rat} {k : Nat}
theorem e_natural {ok : Bool} {N : List Nat} (hl : l.length < 100000) (h1 : PV csz numc okT nt cl w0 p1 (str l)) (hN : (if l.all isDig then digs (dval l) else []) = N) (hok : okNat l = ok) (h3 : cl[c]? = some (clD N)) : V csz numc okT nt cl w0 (.call 81) [p1] (.tup [op c, vp (.bool ok)]) := by
  refine ⟨enters_of Tryz.func81 (by kernel_rfl) rfl, fun w vs hb hvs => ?_⟩
  obtain ⟨v1, _, rfl, h4, rfl⟩ := hvs
  obtain rfl := h1 _ _ h4
  refine (natural_ok l w hl).mono ?_
  rintro e w' ⟨v, rfl, hv, hb⟩
  rw [hN] at hv
  rw [hok]
  exact ⟨_, rfl, ⟨_, ⟨_, _, rfl, (op_isD h3).2 hv, _, _, rfl, vp_is.2 rfl, rfl⟩, rfl⟩, hb⟩
theorem e_makeq {neg : Bool} {m n : Nat} (h1 : PV csz numc okT nt cl w0 p1 (.bool neg)) (h2 : PD csz numc okT nt cl w0 p2 (digs m)) (h3 : PD csz numc okT nt cl w0 p3 (digs n)) (hn : 0 < n) (hl1 : (digs m).length < 10000000) (hl2 : (digs n).length < 10000000) (hx : x = mkRat (sgn neg m) n) (z : Siz x k) (g : cl[c]? = some (clR x k)) : V csz numc okT nt cl w0 (.call 82) [p1, p2, p3] (.val (rq c)) := by
  refine ⟨enters_of Tryz.func82 (by kernel_rfl) rfl, fun w vs hb hvs => ?_⟩
  obtain ⟨v1, _, rfl, h4, v2, _, rfl, h5, v3, _, rfl, h6, rfl⟩ := hvs
  obtain rfl := h1 _ _ h4
  refine (make_ok neg v2 v3 m n w (h2 _ _ hb h5) (h3 _ _ hb h6) hn hl1 hl2).mono ?_
  rintro e w' ⟨v, rfl, hv, hb'⟩
  exact ⟨_, rfl, (rq_is g).2 ⟨RatP.rq hn hv hx, z⟩, hb'⟩
theorem e_texta (h1 : PR csz numc okT nt cl w0 p1 x k) (hk : k ≤ 1000000) (h3 : RV csz numc okT nt cl w0 res (str (qtext x))) : V csz numc okT nt cl w0 (.call 83) [p1] res := by
  refine ⟨enters_of Tryz.func83 (by kernel_rfl) rfl, fun w vs hb hvs => ?_⟩
  obtain ⟨v1, _, rfl, h4, rfl⟩ := hvs
  have h4 := h1 _ _ h4
  refine (rtext_ok v1 x k w h4.1 h4.2 hk).mono ?_
  rintro e w' ⟨rfl, hb⟩
  exact ⟨_, rfl, h3 w', hb⟩
theorem e_neqs {e : Bool} (h1 : PV csz numc okT nt cl w0 p1 (str a)) (h2 : PV csz numc okT nt cl w0 p2 (str b)) (he : (!decide (a = b)) = e) : V csz numc okT nt cl w0 (.bin .neq 9) [p1, p2] (.val (vp (.bool e))) := by
  intro w ρ oo xs ho hb hvs
  obtain ⟨x, y, u, hop, rfl⟩ := hd_bin ho
  obtain ⟨v1, _, e1, h4, v2, _, e2, h5, e3⟩ := hvs
  obtain rfl := h1 _ _ h4
  obtain rfl := h2 _ _ h5
  subst e2
  simp only [List.map_cons, List.map_nil, List.cons.injEq] at e1
  obtain ⟨ea, eb, _⟩ := e1
  refine ⟨_, w, ?_, vp_r _ _ _, Below.refl _ _⟩
  show (execOp ρ oo).run Tryz.prog w = _
  have hg : (eqGuard .neq 9 x y (str a) (str b)).run Tryz.prog w = .ok () w := rfl
  have hbe : (!(a == b)) = e := by
    rw [← he]
    by_cases h : a = b
    · subst h; simp
    · simp [h]
  have hr : (Go.binOp .neq 9 (str a) (str b)).run Tryz.prog w = .ok (.bool e) w := by
    show (Op.stringOp .neq ⟨a.toArray⟩ ⟨b.toArray⟩).run Tryz.prog w = _
    unfold Op.stringOp
    simp only [ByteArray.toList_eq]
    show Result.ok (Value.bool (!(a == b))) w = _
    rw [hbe]
  simp only [execOp, hop, ea, eb, Sem.run_bind, hg, hr, Result.andThen_ok]
  rfl
theorem e_neqk {t : Nat} {k : IntKind} {x y : Int} {e : Bool} (h1 : PV csz numc okT nt cl w0 p1 (.int k x)) (h2 : PV csz numc okT nt cl w0 p2 (.int k y)) (he : (x != y) = e) : V csz numc okT nt cl w0 (.bin .neq t) [p1, p2] (.val (vp (.bool e))) :=
  e_bin h1 h2 rvl (fun w => by subst he; cases k <;> rfl)
theorem e_sto {i : Nat} (hi : i ≤ l.length) (h1 : PV csz numc okT nt cl w0 p1 (str l)) (h2 : PV csz numc okT nt cl w0 p2 (ii (i : Int))) (h3 : RV csz numc okT nt cl w0 res (str (l.take i))) : V csz numc okT nt cl w0 (.sl 9 false true false) [p1, p2] res := by
  intro w ρ oo xs ho hb hvs
  obtain ⟨a, lo, hi', mx, hop, q1, q2, q3, rfl⟩ := hd_sl ho
  obtain rfl : lo = none := by cases lo <;> simp_all
  obtain rfl : mx = none := by cases mx <;> simp_all
  obtain ⟨b, rfl⟩ := Option.isSome_iff_exists.1 q2
  obtain ⟨v1, _, e1, h4, v2, _, e2, h5, e3⟩ := hvs
  obtain rfl := h1 _ _ h4
  obtain rfl := h2 _ _ h5
  subst e2
  simp only [Option.toList, List.nil_append, List.append_nil, List.map_cons, List.map_nil, List.cons.injEq] at e1
  obtain ⟨ea, eb, _⟩ := e1
  refine ⟨_, w, ?_, h3 w, Below.refl _ _⟩
  have hr := run_slice_string_to_if (P := Tryz.prog) w 9 ⟨l.toArray⟩ .i64 (i : Int) und_str
  rw [if_pos ⟨by omega, by show (i : Int) ≤ ((l.length : Nat) : Int); omega⟩] at hr
  have hx : (⟨l.toArray⟩ : ByteArray).extract 0 ((i : Int)).toNat = ⟨(l.take i).toArray⟩ := extract_take l i
  rw [hx] at hr
  show (execOp ρ oo).run Tryz.prog w = _
  simp only [execOp, hop, ea, eb, Sem.run_bind, Option.map_none, Option.map_some, run_sliceAt_string _ _ _ _ _ _ und_str, hr, Result.andThen_ok]
  rfl
theorem e_sfrom {i : Nat} (hi : i ≤ l.length) (h1 : PV csz numc okT nt cl w0 p1 (str l)) (h2 : PV csz numc okT nt cl w0 p2 (ii (i : Int))) (h3 : RV csz numc okT nt cl w0 res (str (l.drop i))) : V csz numc okT nt cl w0 (.sl 9 true false false) [p1, p2] res := by
  intro w ρ oo xs ho hb hvs
  obtain ⟨a, lo, hi', mx, hop, q1, q2, q3, rfl⟩ := hd_sl ho
  obtain rfl : hi' = none := by cases hi' <;> simp_all
  obtain rfl : mx = none := by cases mx <;> simp_all
  obtain ⟨b, rfl⟩ := Option.isSome_iff_exists.1 q1
  obtain ⟨v1, _, e1, h4, v2, _, e2, h5, e3⟩ := hvs
  obtain rfl := h1 _ _ h4
  obtain rfl := h2 _ _ h5
  subst e2
  simp only [Option.toList, List.cons_append, List.nil_append, List.append_nil, List.map_cons, List.map_nil, List.cons.injEq] at e1
  obtain ⟨ea, eb, _⟩ := e1
  refine ⟨_, w, ?_, h3 w, Below.refl _ _⟩
  have hr := run_slice_string_from_if (P := Tryz.prog) w 9 ⟨l.toArray⟩ .i64 (i : Int) und_str
  rw [if_pos ⟨by omega, by show (i : Int) ≤ ((l.length : Nat) : Int); omega⟩] at hr
  have hx : (⟨l.toArray⟩ : ByteArray).extract ((i : Int)).toNat (⟨l.toArray⟩ : ByteArray).size = ⟨(l.drop i).toArray⟩ := extract_drop l i
  rw [hx] at hr
  show (execOp ρ oo).run Tryz.prog w = _
  simp only [execOp, hop, ea, eb, Sem.run_bind, Option.map_none, Option.map_some, run_sliceAt_string _ _ _ _ _ _ und_str, hr, Result.andThen_ok]
  rfl
end
theorem at_retc {C : Ctx} {a : Act} {w : World} {fn : Func} {t ty s : Nat} {gs : List Grp} {q : Pat} {l : List Item} {d : TypeDesc} {inf : TypeInfo} (hr : fn.results = #[.cell t ty, .tmp s]) (hd : C.P.underlying ty = some d) (hag : isAggD d = true) (hi : C.P.info? ty = some inf) (hA : At C (.box t ty gs :: .val s q :: l) a w) (hlen : ∀ vs, GrpsAre C w gs vs → vs.length = inf.size)
    {Q : Ending → World → Prop} (h : ∀ vs u, GrpsAre C w gs vs → q.is C w u → Q (.returned (.tuple #[.agg vs.toArray, u])) w) : bodyPost C.P fn Q .ret a w := by
  obtain ⟨k, vs, h1, _, _, h3, h4, ⟨u, h5, h6⟩, _⟩ := hA.items
  refine ⟨hA.defers, .tuple #[.agg vs.toArray, u], ?_, h vs u h4 h6⟩
  rw [results_eq, hr]
  have e1 : a.tmps.getD t undef = .pointer (some ⟨k, 0, none⟩) := by rw [Array.getD_eq_getD_getElem?, h1]; rfl
  have e2 : a.tmps.getD s undef = u := by rw [Array.getD_eq_getD_getElem?, h5]; rfl
  have hl := run_loadCells_list (P := C.P) (w := w) ⟨k, 0, none⟩ vs (fun j v hj => by rw [addr_add, Nat.zero_add]; simpa [World.cell?, h3] using hj)
  rw [hlen vs h4] at hl
  have hv : (loadVar ty ⟨k, 0, none⟩).run C.P w = .ok (.agg vs.toArray) w := by simp [loadVar, run_isAggD hd, hag, run_size hi, hl]
  simp [resF, e1, e2, asAddr, hv]
theorem und_ratT : Tryz.prog.underlying 33 = some (match Tryz.prog.underlying 33 with | some d => d | none => .bool) := by kernel_rfl
theorem info_ratT : (Tryz.prog.info? 33).map (fun i => i.size) = some 3 := by kernel_rfl
theorem take_while (T : List UInt8) : ∀ (i : Nat), (∀ c ∈ T.take i, c ≠ 47) → (T.length ≤ i ∨ T.getD i 0 = 47) → T.takeWhile (· != 47) = T.take i ∧ T.dropWhile (· != 47) = T.drop i := by
  induction T with
  | nil => intro i _ _; simp
  | cons c T ih =>
    intro i h1 h2
    cases i with
    | zero =>
      have : c = 47 := by
        rcases h2 with h | h
        · simp at h
        · simpa using h
      subst this
      simp
    | succ i =>
      have hc : c ≠ 47 := h1 c (by simp)
      have := ih i (fun x hx => h1 x (by simp [hx])) (by
        rcases h2 with h | h
        · exact .inl (by simpa using h)
        · exact .inr (by simpa using h))
      simp [hc, this.1, this.2]
theorem signed_mk (neg : Bool) (m n : Nat) : signed neg m * ((n : Nat) : Rat)⁻¹ = mkRat (sgn neg m) n := by
  rw [Rat.mkRat_eq_div, Rat.div_def]
  congr 1
  unfold signed sgn
  split
  · rw [Rat.intCast_neg]; rfl
  · rfl
theorem dval_siz1 {l : List UInt8} {k n : Nat} (h : l.all isDig = true) (hl : l.length ≤ k) (hk : k ≤ 19 * n) : dval l < B ^ n :=
  Nat.lt_of_lt_of_le (Nat.lt_of_lt_of_le (dval_lt l (List.all_eq_true.1 h)) (Nat.pow_le_pow_right (by omega) hl)) (pow_ten_lt hk)
theorem dval_siz2 {l : List UInt8} (h : l.all isDig = true) (hl : l.length ≤ 4000) : dval l < B ^ 220 := dval_siz1 h hl (by omega)
theorem mk_siz {neg : Bool} {m n k : Nat} (hn : 0 < n) (h1 : m < B ^ k) (h2 : n < B ^ k) : Siz (mkRat (sgn neg m) n) k := by
  obtain ⟨e1, e2, _⟩ := mk_parts neg (m := m) hn
  refine ⟨?_, ?_⟩
  · rw [e1]; exact Nat.lt_of_le_of_lt (Nat.div_le_self _ _) h1
  · rw [e2]; exact Nat.lt_of_le_of_lt (Nat.div_le_self _ _) h2
def RdS (w0 : World) (l T : List UInt8) (neg : Bool) (i : Nat) (a : Act) (w : World) : Prop := Below w0.heap.size w0 w ∧ a.defers = [] ∧ a.tmps.size = 81 ∧ ∃ b, a.tmps[2]? = some (.pointer (some ⟨b, 0, none⟩)) ∧ w0.heap.size ≤ b ∧ w.heap[b]? = some (.cells #[.bool false, .slice none 0 0, .slice none 0 0] 33 (0, 0)) ∧ a.tmps[0]? = some (str l) ∧ a.tmps[4]? = some (str T) ∧ a.tmps[5]? = some (.bool neg) ∧ a.tmps[6]? = some (ii (i : Int))
def zr : List Grp := [.lit (.bool false), .lit (.slice none 0 0), .lit (.slice none 0 0)]
section
variable {csz : List Nat} {numc : List Bool} {okT : List Nat} {cl : List Cl} {w0 : World} {w : World} {p0 p4 p5 p6 : Pat} {neg : Bool} {l T : List UInt8} {i : Nat} {a : Act}
theorem at_rds (h : At (mkC csz numc okT 81 cl w0) [.box 2 33 zr, .val 0 p0, .val 4 p4, .val 5 p5, .val 6 p6] a w) (h0 : ∀ w v, p0.is (mkC csz numc okT 81 cl w0) w v → v = str l) (h4 : ∀ w v, p4.is (mkC csz numc okT 81 cl w0) w v → v = str T) (h5 : ∀ w v, p5.is (mkC csz numc okT 81 cl w0) w v → v = .bool neg) (h6 : ∀ w v, p6.is (mkC csz numc okT 81 cl w0) w v → v = ii (i : Int)) : RdS w0 l T neg i a w := by
  obtain ⟨b, vs, q1, q2, _, q3, ⟨xs, ys, rfl, rfl, xs2, ys2, rfl, rfl, xs3, ys3, rfl, rfl, e5⟩, ⟨v0, q4, q5⟩, ⟨v4, q6, q7⟩, ⟨v5, q8, q9⟩, ⟨v6, q10, q11⟩, _⟩ := h.items
  rw [show ys3 = [] from e5] at q3
  rw [h0 _ _ q5] at q4
  rw [h4 _ _ q7] at q6
  rw [h5 _ _ q9] at q8
  rw [h6 _ _ q11] at q10
  exact ⟨h.below, h.defers, h.size, b, q1, q2, q3, q4, q6, q8, q10⟩
theorem rds_at (h : RdS w0 l T neg i a w) (h0 : p0.is (mkC csz numc okT 81 cl w0) w (str l)) (h4 : p4.is (mkC csz numc okT 81 cl w0) w (str T)) (h5 : p5.is (mkC csz numc okT 81 cl w0) w (.bool neg)) (h6 : p6.is (mkC csz numc okT 81 cl w0) w (ii (i : Int))) : At (mkC csz numc okT 81 cl w0) [.box 2 33 zr, .val 0 p0, .val 4 p4, .val 5 p5, .val 6 p6] a w := by
  obtain ⟨g1, g2, g3, b, q1, q2, q3, q4, q5, q6, q7⟩ := h
  exact ⟨g1, g2, g3, b, [.bool false, .slice none 0 0, .slice none 0 0], q1, q2, by simp, q3, ⟨[.bool false], [.slice none 0 0, .slice none 0 0], rfl, rfl, [.slice none 0 0], [.slice none 0 0], rfl, rfl, [.slice none 0 0], [], rfl, rfl, rfl⟩, ⟨_, q4, h0⟩, ⟨_, q5, h4⟩, ⟨_, q6, h5⟩, ⟨_, q7, h6⟩, trivial⟩
end
noncomputable def b_read : Code := bodyOf Tryz.f12
noncomputable def x_read : Code := seqR (seqR (seqR (seqR (seqR b_read))))
noncomputable def l_read : Code := inner (inner (seqL x_read))
def RRead (w : World) (l : List UInt8) (e : Ending) (w' : World) : Prop := ∃ v, e = .returned (.tuple #[v, .int .i64 (readQ l).2]) ∧ RQ w' v (readQ l).1 ∧ Below w.heap.size w w'
abbrev cl_r0 (l : List UInt8) : List Cl := [clV (str l), clV (str (l.drop 1)), clV (ii (l.length : Int)), clV (.int .u8 (((l.getD 0 0).toNat : Nat) : Int)), clR ((0 : Int) : Rat) 220]
noncomputable abbrev C_r0 (l : List UInt8) (w : World) : Ctx := mkC [1, 1, 1, 1, 3] [true, true, true, true, true] [33] 81 (cl_r0 l) w
theorem r0_C (l : List UInt8) (w : World) : (C_r0 l w).Ok := mkC_ok (oks_cons (clVs_ok _) (oks_cons (clVs_ok _) (oks_cons (clVi_ok _) (oks_cons (clV_ok rfl) (oks_cons (clR_ok ratT _ _) oks_nil))))) rfl rfl
def t_r0 (b1 b2 : Bool) : List Ent := [⟨.blt .len [9] 3, [op 0], .val (op 2)⟩, ⟨.bin .gtr 3, [op 2, vp (ii 4000)], .val (vp (.bool b1))⟩, ⟨.bin .gtr 3, [op 2, vp (ii 0)], .val (vp (.bool b2))⟩, ⟨.call 16, [vp (ii 0)], .val (rq 4)⟩]
theorem r0_T (l : List UInt8) (w : World) {b1 b2 : Bool} (h1 : decide (4000 < l.length) = b1) (h2 : decide (0 < l.length) = b2) : ∀ t ∈ t_r0 b1 b2, t.Valid (C_r0 l w) :=
  forall_cons (e_slen rfl (pv rfl) (rv rfl)) (forall_cons (e_gtr (pv rfl) pvl (by rw [← h1]; congr 1; apply propext; omega)) (forall_cons (e_gtr (pv rfl) pvl (by rw [← h2]; congr 1; apply propext; omega)) (forall_cons (e_rint (by decide) (by decide) rfl (by decide)) forall_nil)))
def t_r1 (b : Bool) : List Ent := [⟨.si 9, [op 0, vp (ii 0)], .val (op 3)⟩, ⟨.bin .eql 5, [op 3, vp (.int .u8 45)], .val (vp (.bool b))⟩, ⟨.sl 9 true false false, [op 0, vp (ii 1)], .val (op 1)⟩]
theorem r1_T (l : List UInt8) (w : World) (hl : 0 < l.length) {b : Bool} (h : decide ((l.getD 0 0).toNat = 45) = b) : ∀ t ∈ t_r1 b, t.Valid (C_r0 l w) :=
  forall_cons (e_six (i := 0) hl rfl (pv rfl) pvl (rv rfl)) (forall_cons (e_eql (pv rfl) pvl (by rw [← h]; congr 1; apply propext; omega)) (forall_cons (e_sfrom (i := 1) hl (pv rfl) pvl (rv rfl)) forall_nil))
theorem t_app {C : Ctx} {l1 l2 : List Ent} (h1 : ∀ t ∈ l1, t.Valid C) (h2 : ∀ t ∈ l2, t.Valid C) : ∀ t ∈ l1 ++ l2, t.Valid C := fun t ht => (List.mem_append.1 ht).elim (h1 t) (h2 t)
theorem read_long (l : List UInt8) (w : World) (h : 4000 < l.length) : Calls Tryz.prog 12 #[str l] w (RRead w l) := by
  refine (run_mk (r0_C l w) (r0_T l w (decide_eq_true h) rfl) 12 Tryz.f12 [op 0] (.tup [rq 4, vp (ii 5)]) 60 Tryz.func12 rfl rfl rfl (by kernel_rfl) [str l] ⟨_, _, rfl, (op_is rfl).2 rfl, rfl⟩).mono ?_
  rintro e w' ⟨v, rfl, ⟨vs, ⟨v1, _, rfl, g1, v2, _, rfl, g2, rfl⟩, rfl⟩, hb⟩
  obtain rfl := vp_is.1 g2
  have hr : readQ l = (0, 5) := by unfold readQ; rw [if_pos h]
  unfold RRead
  rw [hr]
  exact ⟨v1, rfl, ((rq_is rfl).1 g1).1, hb⟩
abbrev cl_rl (l T : List UInt8) (i : Nat) (NA NB : List Nat) (x : Rat) : List Cl := [clV (str l), clV (str T), clV (ii (i : Int)), clV (ii (T.length : Int)), clV (.int .u8 (((T.getD i 0).toNat : Nat) : Int)), clV (ii ((i + 1 : Nat) : Int)), clV (str (T.take i)), clV (str (T.drop (i + 1))), clD NA, clD NB, clD (digs 1), clR ((0 : Int) : Rat) 220, clR x 220, clV (str (qtext x)), clV (ii (NB.length : Int))]
noncomputable abbrev C_rl (l T : List UInt8) (i : Nat) (NA NB : List Nat) (x : Rat) (w : World) : Ctx := mkC [1, 1, 1, 1, 1, 1, 1, 1, 1, 1, 1, 3, 3, 1, 1] [true, true, true, true, true, true, true, true, false, false, false, true, true, true, true] [33] 81 (cl_rl l T i NA NB x) w
theorem rl_C (l T : List UInt8) (i : Nat) (NA NB : List Nat) (x : Rat) (w : World) : (C_rl l T i NA NB x w).Ok := mkC_ok (oks_cons (clVs_ok _) (oks_cons (clVs_ok _) (oks_cons (clVi_ok _) (oks_cons (clVi_ok _) (oks_cons (clV_ok rfl) (oks_cons (clVi_ok _) (oks_cons (clVs_ok _) (oks_cons (clVs_ok _) (oks_cons (clD_ok ratT _) (oks_cons (clD_ok ratT _) (oks_cons (clD_ok ratT _) (oks_cons (clR_ok ratT _ _) (oks_cons (clR_ok ratT _ _) (oks_cons (clVs_ok _) (oks_cons (clVi_ok _) oks_nil))))))))))))))) rfl rfl
def t_rA (b : Bool) : List Ent := [⟨.blt .len [9] 3, [op 1], .val (op 3)⟩, ⟨.bin .lss 3, [op 2, op 3], .val (vp (.bool b))⟩, ⟨.bin .add 3, [op 2, vp (ii 1)], .val (op 5)⟩]
def t_rB (b : Bool) : List Ent := [⟨.si 9, [op 1, op 2], .val (op 4)⟩, ⟨.bin .neq 5, [op 4, vp (.int .u8 47)], .val (vp (.bool b))⟩]
def t_rC (ok : Bool) : List Ent := [⟨.sl 9 false true false, [op 1, op 2], .val (op 6)⟩, ⟨.call 81, [op 6], .tup [op 8, vp (.bool ok)]⟩, ⟨.bs 31 1, [vp (ii 1)], .val (op 10)⟩, ⟨.call 16, [vp (ii 0)], .val (rq 11)⟩, ⟨.blt .len [31] 3, [op 10], .val (vp (ii 1))⟩]
def t_rD (ok e : Bool) : List Ent := [⟨.sl 9 true false false, [op 1, op 5], .val (op 7)⟩, ⟨.call 81, [op 7], .tup [op 9, vp (.bool ok)]⟩, ⟨.blt .len [31] 3, [op 9], .val (op 14)⟩, ⟨.bin .eql 3, [op 14, vp (ii 0)], .val (vp (.bool e))⟩]
def t_rE (s : Bool) (c : Nat) (e : Bool) : List Ent := [⟨.call 82, [vp (.bool s), op 8, op c], .val (rq 12)⟩, ⟨.call 83, [rq 12], .val (op 13)⟩, ⟨.bin .neq 9, [op 13, op 0], .val (vp (.bool e))⟩]
section
variable {l T : List UInt8} {i : Nat} {NA NB : List Nat} {x : Rat} {w : World}
theorem rA_T {b : Bool} (hi : i < 100000) (h : decide (i < T.length) = b) : ∀ t ∈ t_rA b, t.Valid (C_rl l T i NA NB x w) :=
  forall_cons (e_slen rfl (pv rfl) (rv rfl)) (forall_cons (e_lss (pv rfl) (pv rfl) (by rw [← h]; congr 1; apply propext; omega)) (forall_cons (e_add (by omega) (pv rfl) pvl (rv rfl) (by omega)) forall_nil))
theorem rB_T {b : Bool} (hi : i < T.length) (h : decide (T.getD i 0 ≠ 47) = b) : ∀ t ∈ t_rB b, t.Valid (C_rl l T i NA NB x w) :=
  forall_cons (e_six hi rfl (pv rfl) (pv rfl) (rv rfl)) (forall_cons (e_neqk (pv rfl) pvl (by
    rw [← h]
    by_cases h0 : T.getD i 0 = 47
    · rw [h0]; rfl
    · have : (T.getD i 0).toNat ≠ 47 := fun e => h0 (UInt8.toNat_inj.1 (by rw [e]; rfl))
      rw [decide_eq_true h0]
      exact bne_iff_ne.2 (fun e => this (by omega)))) forall_nil)
theorem rC_T {ok : Bool} (hi : i ≤ T.length) (hl : T.length < 100000) (hN : (if (T.take i).all isDig then digs (dval (T.take i)) else []) = NA) (hok : okNat (T.take i) = ok) : ∀ t ∈ t_rC ok, t.Valid (C_rl l T i NA NB x w) :=
  forall_cons (e_sto hi (pv rfl) (pv rfl) (rv rfl)) (forall_cons (e_natural (by rw [List.length_take]; omega) (pv rfl) hN hok rfl) (forall_cons (e_bs1 (x := 1) pvl (rd (by rw [← digs_one]; rfl))) (forall_cons (e_rint (by decide) (by decide) rfl (by decide)) (forall_cons (e_len und_nat (pd rfl) (by rw [digs_one]; exact rvl)) forall_nil))))
theorem rD_T {ok e : Bool} (hi : i < T.length) (hl : T.length < 100000) (hN : (if (T.drop (i + 1)).all isDig then digs (dval (T.drop (i + 1))) else []) = NB) (hok : okNat (T.drop (i + 1)) = ok) (he : decide (NB.length = 0) = e) : ∀ t ∈ t_rD ok e, t.Valid (C_rl l T i NA NB x w) :=
  forall_cons (e_sfrom hi (pv rfl) (pv rfl) (rv rfl)) (forall_cons (e_natural (by rw [List.length_drop]; omega) (pv rfl) hN hok rfl) (forall_cons (e_len und_nat (pd rfl) (rv rfl)) (forall_cons (e_eql (pv rfl) pvl (by rw [← he]; congr 1; apply propext; omega)) forall_nil)))
theorem rE_T {s e : Bool} {m n c : Nat} (hA : NA = digs m) (hc : PD [1, 1, 1, 1, 1, 1, 1, 1, 1, 1, 1, 3, 3, 1, 1] [true, true, true, true, true, true, true, true, false, false, false, true, true, true, true] [33] 81 (cl_rl l T i NA NB x) w (op c) (digs n)) (hn : 0 < n) (hm : m < B ^ 220) (hn2 : n < B ^ 220) (hx : x = mkRat (sgn s m) n) (he : (!decide (qtext x = l)) = e) : ∀ t ∈ t_rE s c e, t.Valid (C_rl l T i NA NB x w) := by
  have h1 := digs_siz hm
  have h2 := digs_siz hn2
  subst hA
  exact forall_cons (e_makeq pvl (pd rfl) hc hn (by omega) (by omega) hx (by rw [hx]; exact mk_siz hn hm hn2) rfl) (forall_cons (e_texta (pr rfl) (by decide) (rv rfl)) (forall_cons (e_neqs (pv rfl) (pv rfl) he) forall_nil))
end
theorem read_fin_t (l T : List UInt8) (i : Nat) (w : World) (hl : l.length ≤ 4000) (hT : T = restOf l) (hm : minusOf l = true) (hi : i ≤ T.length) (htake : ∀ c ∈ T.take i, c ≠ 47) (hend : T.length ≤ i ∨ T.getD i 0 = 47) (a1 : Act) (w1 : World) (hR : RdS w l T true i a1 w1) : (seqR x_read).wp Tryz.prog (bodyPost Tryz.prog Tryz.f12 (RRead w l)) a1 w1 := by
  have hTl : T.length ≤ 4000 := by
    have := restOf_len l
    rw [← hT] at this
    omega
  obtain ⟨inf, hinf, hsz⟩ := Option.map_eq_some_iff.1 info_ratT
  obtain ⟨t1, t2⟩ := take_while T i htake hend
  have hab : aboveOf l = T.take i := by unfold aboveOf; rw [← hT]; exact t1
  have hlen3 : ∀ {C : Ctx} {w : World} {c : Nat} vs, GrpsAre C w [.cls c 3] vs → vs.length = inf.size := by
    rintro C w c vs ⟨xs, ys, rfl, ⟨f, _, rfl⟩, hy⟩
    rw [show ys = [] from hy, hsz]
    rfl
  have cells : ∀ {NA NB : List Nat} {x : Rat} {c : Nat} {r : Rat} {k : Nat} {w' : World} vs, (cl_rl l T i NA NB x)[c]? = some (clR r k) → GrpsAre (C_rl l T i NA NB x w) w' [.cls c 3] vs → RQ w' (.agg vs.toArray) r := by
    intro NA NB x c r k w' vs hc h
    exact ((rq_is hc).1 ⟨vs, h, rfl⟩).1
  have at0 : ∀ (NA NB : List Nat) (x : Rat), At (C_rl l T i NA NB x w) [.box 2 33 zr, .val 0 (op 0), .val 4 (op 1), .val 5 (vp (.bool true)), .val 6 (op 2)] a1 w1 := fun NA NB x => rds_at hR ((op_is rfl).2 rfl) ((op_is rfl).2 rfl) (vp_is.2 rfl) ((op_is rfl).2 rfl)
  have bad : ∀ {NA NB : List Nat} {x : Rat} {Tb : List Ent}, (∀ t ∈ Tb, t.Valid (C_rl l T i NA NB x w)) → readQ l = (0, 4) → segB (C_rl l T i NA NB x w).toStat Tb 60 (seqR x_read) [.box 2 33 zr, .val 0 (op 0), .val 4 (op 1), .val 5 (vp (.bool true)), .val 6 (op 2)] .ret [.box 2 33 [.cls 11 3], .val 3 (vp (ii 4))] = true → (seqR x_read).wp Tryz.prog (bodyPost Tryz.prog Tryz.f12 (RRead w l)) a1 w1 := by
    intro NA NB x Tb hTb hq hrun
    refine seg_is (rl_C _ _ _ _ _ _ _) hTb hrun (at0 NA NB x) (fun a2 w2 hA => at_retc (C := C_rl l T i NA NB x w) (fn := Tryz.f12) (t := 2) (ty := 33) (s := 3) rfl und_ratT (by kernel_rfl) hinf hA (fun vs h => hlen3 vs h) (fun vs u h1 h2 => ?_))
    obtain rfl := vp_is.1 h2
    unfold RRead
    rw [hq]
    exact ⟨_, rfl, cells vs rfl h1, hA.below⟩
  have good : ∀ {NA NB : List Nat} {x : Rat} {Tb : List Ent}, (∀ t ∈ Tb, t.Valid (C_rl l T i NA NB x w)) → readQ l = (x, 0) → segB (C_rl l T i NA NB x w).toStat Tb 60 (seqR x_read) [.box 2 33 zr, .val 0 (op 0), .val 4 (op 1), .val 5 (vp (.bool true)), .val 6 (op 2)] .ret [.box 2 33 [.cls 12 3], .val 3 (vp (ii 0))] = true → (seqR x_read).wp Tryz.prog (bodyPost Tryz.prog Tryz.f12 (RRead w l)) a1 w1 := by
    intro NA NB x Tb hTb hq hrun
    refine seg_is (rl_C _ _ _ _ _ _ _) hTb hrun (at0 NA NB x) (fun a2 w2 hA => at_retc (C := C_rl l T i NA NB x w) (fn := Tryz.f12) (t := 2) (ty := 33) (s := 3) rfl und_ratT (by kernel_rfl) hinf hA (fun vs h => hlen3 vs h) (fun vs u h1 h2 => ?_))
    obtain rfl := vp_is.1 h2
    unfold RRead
    rw [hq]
    exact ⟨_, rfl, cells vs rfl h1, hA.below⟩
  have hnl : ¬ 4000 < l.length := by omega
  have hit : i < 100000 := by omega
  have okAll : ∀ {b : List UInt8}, okNat b = true → b.all isDig = true := by
    intro b h
    unfold okNat at h
    simp only [Bool.and_eq_true] at h
    exact h.2
  by_cases hs : i < T.length
  · -- a slash
    have hbe : belowOf l = T.drop (i + 1) := by
      unfold belowOf
      rw [← hT, t2]
      have : T.drop i = T[i] :: T.drop (i + 1) := List.drop_eq_getElem_cons hs
      rw [this]
      rfl
    cases ok1 : okNat (T.take i) with
    | false =>
      have hq : readQ l = (0, 4) := readQ_none hnl (by unfold parsed; rw [hab, ok1]; rfl)
      cases ok2 : okNat (T.drop (i + 1)) <;>
        exact bad (x := 0) (t_app (rA_T hit (decide_eq_true hs)) (t_app (rC_T hi (by omega) rfl ok1) (rD_T hs (by omega) rfl ok2 rfl))) hq (by kernel_rfl)
    | true =>
      have hAd := okAll ok1
      cases ok2 : okNat (T.drop (i + 1)) with
      | false =>
        have hq : readQ l = (0, 4) := readQ_none hnl (by unfold parsed; rw [hab, hbe, ok1, ok2]; rfl)
        exact bad (x := 0) (t_app (rA_T hit (decide_eq_true hs)) (t_app (rC_T hi (by omega) rfl ok1) (rD_T hs (by omega) rfl ok2 rfl))) hq (by kernel_rfl)
      | true =>
        have hBd := okAll ok2
        by_cases hz : dval (T.drop (i + 1)) = 0
        · have hq : readQ l = (0, 4) := readQ_none hnl (by unfold parsed; rw [hab, hbe, ok1, ok2, hz]; rfl)
          exact bad (x := 0) (t_app (rA_T hit (decide_eq_true hs)) (t_app (rC_T hi (by omega) rfl ok1) (rD_T (e := true) (NB := []) hs (by omega) (by rw [if_pos hBd, hz, digs_zero]) ok2 rfl))) hq (by kernel_rfl)
        · have hp : parsed l = some (mkRat (sgn true (dval (T.take i))) (dval (T.drop (i + 1)))) := by
            unfold parsed
            rw [hab, hbe, ok1, ok2, hm, signed_mk]
            simp [hz]
          have hn0 : 0 < dval (T.drop (i + 1)) := by omega
          have hq := readQ_some hnl hp
          have hlz : decide ((digs (dval (T.drop (i + 1)))).length = 0) = false := by
            have := digs_pos_len.2 hz
            exact decide_eq_false (by omega)
          have base := fun (x : Rat) => t_app (rA_T (l := l) (x := x) (w := w) hit (decide_eq_true hs)) (t_app (rC_T (NB := digs (dval (T.drop (i + 1)))) hi (by omega) (if_pos hAd) ok1) (rD_T hs (by omega) (if_pos hBd) ok2 hlz))
          have s1 := dval_siz2 hAd (by rw [List.length_take]; omega)
          have s2 := dval_siz2 hBd (by rw [List.length_drop]; omega)
          by_cases he : qtext (mkRat (sgn true (dval (T.take i))) (dval (T.drop (i + 1)))) = l
          · rw [if_pos he] at hq
            exact good (t_app (base _) (rE_T (s := true) (e := false) (c := 9) rfl (pd rfl) hn0 s1 s2 rfl (by simp [he]))) hq (by kernel_rfl)
          · rw [if_neg he] at hq
            exact bad (t_app (base _) (rE_T (s := true) (e := true) (c := 9) rfl (pd rfl) hn0 s1 s2 rfl (by simp [he]))) hq (by kernel_rfl)
  · have hbe : belowOf l = [49] := by
      unfold belowOf
      rw [← hT, t2, List.drop_eq_nil_of_le (by omega)]
      rfl
    have k49 : okNat [49] = true := rfl
    have d49 : dval [49] = 1 := rfl
    cases ok1 : okNat (T.take i) with
    | false =>
      have hq : readQ l = (0, 4) := readQ_none hnl (by unfold parsed; rw [hab, ok1]; rfl)
      exact bad (x := 0) (NB := []) (t_app (rA_T hit (decide_eq_false hs)) (rC_T hi (by omega) rfl ok1)) hq (by kernel_rfl)
    | true =>
      have hAd := okAll ok1
      have hp : parsed l = some (mkRat (sgn true (dval (T.take i))) 1) := by
        unfold parsed
        rw [hab, hbe, ok1, k49, hm, d49, signed_mk]
        rfl
      have hq := readQ_some hnl hp
      have base := fun (x : Rat) => t_app (rA_T (l := l) (x := x) (NB := []) (w := w) hit (decide_eq_false hs)) (rC_T hi (by omega) (if_pos hAd) ok1)
      have s1 := dval_siz2 hAd (by rw [List.length_take]; omega)
      have s2 : 1 < B ^ 220 := one_lt_pow (by decide)
      by_cases he : qtext (mkRat (sgn true (dval (T.take i))) 1) = l
      · rw [if_pos he] at hq
        exact good (t_app (base _) (rE_T (s := true) (e := false) (c := 10) rfl (pd rfl) (by decide) s1 s2 rfl (by simp [he]))) hq (by kernel_rfl)
      · rw [if_neg he] at hq
        exact bad (t_app (base _) (rE_T (s := true) (e := true) (c := 10) rfl (pd rfl) (by decide) s1 s2 rfl (by simp [he]))) hq (by kernel_rfl)
theorem read_loop_t (l : List UInt8) (w : World) (hl : l.length ≤ 4000) (hm : minusOf l = true) (a : Act) (w1 : World) (hR : RdS w l (restOf l) true 0 a w1) : x_read.wp Tryz.prog (bodyPost Tryz.prog Tryz.f12 (RRead w l)) a w1 := by
  have hTl : (restOf l).length ≤ 4000 := Nat.le_trans (restOf_len l) hl
  obtain ⟨T, hT⟩ : ∃ T, T = restOf l := ⟨_, rfl⟩
  rw [← hT] at hR hTl
  show (Code.seq (.block 0 (.loop l_read)) (seqR x_read)).wp Tryz.prog _ a w1
  refine wp_seq (while_is (Θ := Nat) (fun i a w1 => i ≤ T.length ∧ (∀ c ∈ T.take i, c ≠ 47) ∧ RdS w l T true i a w1) (fun i => T.length - i) ?_ 0 ⟨Nat.zero_le _, by simp, hR⟩)
  rintro i a w1 ⟨hi, htk, hR⟩
  have hA := rds_at (csz := [1, 1, 1, 1, 1, 1, 1, 1, 1, 1, 1, 3, 3, 1, 1]) (numc := [true, true, true, true, true, true, true, true, false, false, false, true, true, true, true]) (okT := [33]) (cl := cl_rl l T i [] [] 0) (p0 := op 0) (p4 := op 1) (p5 := vp (.bool true)) (p6 := op 2) hR ((op_is rfl).2 rfl) ((op_is rfl).2 rfl) (vp_is.2 rfl) ((op_is rfl).2 rfl)
  have back : ∀ {c j : Nat} {a' : Act} {w' : World}, (cl_rl l T i [] [] 0)[c]? = some (clV (ii (j : Int))) → At (C_rl l T i [] [] 0 w) [.box 2 33 zr, .val 0 (op 0), .val 4 (op 1), .val 5 (vp (.bool true)), .val 6 (op c)] a' w' → RdS w l T true j a' w' := fun hc hA => at_rds hA (fun w v hv => (op_is rfl).1 hv) (fun w v hv => (op_is rfl).1 hv) (fun w v hv => vp_is.1 hv) (fun w v hv => (op_is hc).1 hv)
  by_cases hs : i < T.length
  · have hg : T.getD i 0 = T[i] := by simp [List.getD, hs]
    by_cases h47 : T.getD i 0 = 47
    · refine seg_is (rl_C _ _ _ _ _ _ _) (t_app (rA_T (by omega) (decide_eq_true hs)) (rB_T (b := false) hs (decide_eq_false (fun h => h h47)))) (x := .exit 0) (n := 30) (post := [.box 2 33 zr, .val 0 (op 0), .val 4 (op 1), .val 5 (vp (.bool true)), .val 6 (op 2)]) (by kernel_rfl) hA (fun a2 w2 hA => ?_)
      exact read_fin_t l T i w hl hT hm hi htk (.inr h47) a2 w2 (back rfl hA)
    · refine seg_is (rl_C _ _ _ _ _ _ _) (t_app (rA_T (by omega) (decide_eq_true hs)) (rB_T (b := true) hs (decide_eq_true h47))) (x := .normal) (n := 30) (post := [.box 2 33 zr, .val 0 (op 0), .val 4 (op 1), .val 5 (vp (.bool true)), .val 6 (op 5)]) (by kernel_rfl) hA (fun a2 w2 hA => ⟨i + 1, ⟨hs, ?_, back rfl hA⟩, by show T.length - (i + 1) < T.length - i; omega⟩)
      intro c hc
      rw [List.take_add_one, List.getElem?_eq_getElem hs] at hc
      rcases List.mem_append.1 hc with h | h
      · exact htk c h
      · have : c = T[i] := by simpa using h
        rw [this, ← hg]
        exact h47
  · refine seg_is (rl_C _ _ _ _ _ _ _) (rA_T (by omega) (decide_eq_false hs)) (x := .exit 0) (n := 30) (post := [.box 2 33 zr, .val 0 (op 0), .val 4 (op 1), .val 5 (vp (.bool true)), .val 6 (op 2)]) (by kernel_rfl) hA (fun a2 w2 hA => ?_)
    exact read_fin_t l T i w hl hT hm hi htk (.inl (by omega)) a2 w2 (back rfl hA)
theorem read_fin_f (l T : List UInt8) (i : Nat) (w : World) (hl : l.length ≤ 4000) (hT : T = restOf l) (hm : minusOf l = false) (hi : i ≤ T.length) (htake : ∀ c ∈ T.take i, c ≠ 47) (hend : T.length ≤ i ∨ T.getD i 0 = 47) (a1 : Act) (w1 : World) (hR : RdS w l T false i a1 w1) : (seqR x_read).wp Tryz.prog (bodyPost Tryz.prog Tryz.f12 (RRead w l)) a1 w1 := by
  have hTl : T.length ≤ 4000 := by
    have := restOf_len l
    rw [← hT] at this
    omega
  obtain ⟨inf, hinf, hsz⟩ := Option.map_eq_some_iff.1 info_ratT
  obtain ⟨t1, t2⟩ := take_while T i htake hend
  have hab : aboveOf l = T.take i := by unfold aboveOf; rw [← hT]; exact t1
  have hlen3 : ∀ {C : Ctx} {w : World} {c : Nat} vs, GrpsAre C w [.cls c 3] vs → vs.length = inf.size := by
    rintro C w c vs ⟨xs, ys, rfl, ⟨f, _, rfl⟩, hy⟩
    rw [show ys = [] from hy, hsz]
    rfl
  have cells : ∀ {NA NB : List Nat} {x : Rat} {c : Nat} {r : Rat} {k : Nat} {w' : World} vs, (cl_rl l T i NA NB x)[c]? = some (clR r k) → GrpsAre (C_rl l T i NA NB x w) w' [.cls c 3] vs → RQ w' (.agg vs.toArray) r := by
    intro NA NB x c r k w' vs hc h
    exact ((rq_is hc).1 ⟨vs, h, rfl⟩).1
  have at0 : ∀ (NA NB : List Nat) (x : Rat), At (C_rl l T i NA NB x w) [.box 2 33 zr, .val 0 (op 0), .val 4 (op 1), .val 5 (vp (.bool false)), .val 6 (op 2)] a1 w1 := fun NA NB x => rds_at hR ((op_is rfl).2 rfl) ((op_is rfl).2 rfl) (vp_is.2 rfl) ((op_is rfl).2 rfl)
  have bad : ∀ {NA NB : List Nat} {x : Rat} {Tb : List Ent}, (∀ t ∈ Tb, t.Valid (C_rl l T i NA NB x w)) → readQ l = (0, 4) → segB (C_rl l T i NA NB x w).toStat Tb 60 (seqR x_read) [.box 2 33 zr, .val 0 (op 0), .val 4 (op 1), .val 5 (vp (.bool false)), .val 6 (op 2)] .ret [.box 2 33 [.cls 11 3], .val 3 (vp (ii 4))] = true → (seqR x_read).wp Tryz.prog (bodyPost Tryz.prog Tryz.f12 (RRead w l)) a1 w1 := by
    intro NA NB x Tb hTb hq hrun
    refine seg_is (rl_C _ _ _ _ _ _ _) hTb hrun (at0 NA NB x) (fun a2 w2 hA => at_retc (C := C_rl l T i NA NB x w) (fn := Tryz.f12) (t := 2) (ty := 33) (s := 3) rfl und_ratT (by kernel_rfl) hinf hA (fun vs h => hlen3 vs h) (fun vs u h1 h2 => ?_))
    obtain rfl := vp_is.1 h2
    unfold RRead
    rw [hq]
    exact ⟨_, rfl, cells vs rfl h1, hA.below⟩
  have good : ∀ {NA NB : List Nat} {x : Rat} {Tb : List Ent}, (∀ t ∈ Tb, t.Valid (C_rl l T i NA NB x w)) → readQ l = (x, 0) → segB (C_rl l T i NA NB x w).toStat Tb 60 (seqR x_read) [.box 2 33 zr, .val 0 (op 0), .val 4 (op 1), .val 5 (vp (.bool false)), .val 6 (op 2)] .ret [.box 2 33 [.cls 12 3], .val 3 (vp (ii 0))] = true → (seqR x_read).wp Tryz.prog (bodyPost Tryz.prog Tryz.f12 (RRead w l)) a1 w1 := by
    intro NA NB x Tb hTb hq hrun
    refine seg_is (rl_C _ _ _ _ _ _ _) hTb hrun (at0 NA NB x) (fun a2 w2 hA => at_retc (C := C_rl l T i NA NB x w) (fn := Tryz.f12) (t := 2) (ty := 33) (s := 3) rfl und_ratT (by kernel_rfl) hinf hA (fun vs h => hlen3 vs h) (fun vs u h1 h2 => ?_))
    obtain rfl := vp_is.1 h2
    unfold RRead
    rw [hq]
    exact ⟨_, rfl, cells vs rfl h1, hA.below⟩
  have hnl : ¬ 4000 < l.length := by omega
  have hit : i < 100000 := by omega
  have okAll : ∀ {b : List UInt8}, okNat b = true → b.all isDig = true := by
    intro b h
    unfold okNat at h
    simp only [Bool.and_eq_true] at h
    exact h.2
  by_cases hs : i < T.length
  · -- a slash
    have hbe : belowOf l = T.drop (i + 1) := by
      unfold belowOf
      rw [← hT, t2]
      have : T.drop i = T[i] :: T.drop (i + 1) := List.drop_eq_getElem_cons hs
      rw [this]
      rfl
    cases ok1 : okNat (T.take i) with
    | false =>
      have hq : readQ l = (0, 4) := readQ_none hnl (by unfold parsed; rw [hab, ok1]; rfl)
      cases ok2 : okNat (T.drop (i + 1)) <;>
        exact bad (x := 0) (t_app (rA_T hit (decide_eq_true hs)) (t_app (rC_T hi (by omega) rfl ok1) (rD_T hs (by omega) rfl ok2 rfl))) hq (by kernel_rfl)
    | true =>
      have hAd := okAll ok1
      cases ok2 : okNat (T.drop (i + 1)) with
      | false =>
        have hq : readQ l = (0, 4) := readQ_none hnl (by unfold parsed; rw [hab, hbe, ok1, ok2]; rfl)
        exact bad (x := 0) (t_app (rA_T hit (decide_eq_true hs)) (t_app (rC_T hi (by omega) rfl ok1) (rD_T hs (by omega) rfl ok2 rfl))) hq (by kernel_rfl)
      | true =>
        have hBd := okAll ok2
        by_cases hz : dval (T.drop (i + 1)) = 0
        · have hq : readQ l = (0, 4) := readQ_none hnl (by unfold parsed; rw [hab, hbe, ok1, ok2, hz]; rfl)
          exact bad (x := 0) (t_app (rA_T hit (decide_eq_true hs)) (t_app (rC_T hi (by omega) rfl ok1) (rD_T (e := true) (NB := []) hs (by omega) (by rw [if_pos hBd, hz, digs_zero]) ok2 rfl))) hq (by kernel_rfl)
        · have hp : parsed l = some (mkRat (sgn false (dval (T.take i))) (dval (T.drop (i + 1)))) := by
            unfold parsed
            rw [hab, hbe, ok1, ok2, hm, signed_mk]
            simp [hz]
          have hn0 : 0 < dval (T.drop (i + 1)) := by omega
          have hq := readQ_some hnl hp
          have hlz : decide ((digs (dval (T.drop (i + 1)))).length = 0) = false := by
            have := digs_pos_len.2 hz
            exact decide_eq_false (by omega)
          have base := fun (x : Rat) => t_app (rA_T (l := l) (x := x) (w := w) hit (decide_eq_true hs)) (t_app (rC_T (NB := digs (dval (T.drop (i + 1)))) hi (by omega) (if_pos hAd) ok1) (rD_T hs (by omega) (if_pos hBd) ok2 hlz))
          have s1 := dval_siz2 hAd (by rw [List.length_take]; omega)
          have s2 := dval_siz2 hBd (by rw [List.length_drop]; omega)
          by_cases he : qtext (mkRat (sgn false (dval (T.take i))) (dval (T.drop (i + 1)))) = l
          · rw [if_pos he] at hq
            exact good (t_app (base _) (rE_T (s := false) (e := false) (c := 9) rfl (pd rfl) hn0 s1 s2 rfl (by simp [he]))) hq (by kernel_rfl)
          · rw [if_neg he] at hq
            exact bad (t_app (base _) (rE_T (s := false) (e := true) (c := 9) rfl (pd rfl) hn0 s1 s2 rfl (by simp [he]))) hq (by kernel_rfl)
  · have hbe : belowOf l = [49] := by
      unfold belowOf
      rw [← hT, t2, List.drop_eq_nil_of_le (by omega)]
      rfl
    have k49 : okNat [49] = true := rfl
    have d49 : dval [49] = 1 := rfl
    cases ok1 : okNat (T.take i) with
    | false =>
      have hq : readQ l = (0, 4) := readQ_none hnl (by unfold parsed; rw [hab, ok1]; rfl)
      exact bad (x := 0) (NB := []) (t_app (rA_T hit (decide_eq_false hs)) (rC_T hi (by omega) rfl ok1)) hq (by kernel_rfl)
    | true =>
      have hAd := okAll ok1
      have hp : parsed l = some (mkRat (sgn false (dval (T.take i))) 1) := by
        unfold parsed
        rw [hab, hbe, ok1, k49, hm, d49, signed_mk]
        rfl
      have hq := readQ_some hnl hp
      have base := fun (x : Rat) => t_app (rA_T (l := l) (x := x) (NB := []) (w := w) hit (decide_eq_false hs)) (rC_T hi (by omega) (if_pos hAd) ok1)
      have s1 := dval_siz2 hAd (by rw [List.length_take]; omega)
      have s2 : 1 < B ^ 220 := one_lt_pow (by decide)
      by_cases he : qtext (mkRat (sgn false (dval (T.take i))) 1) = l
      · rw [if_pos he] at hq
        exact good (t_app (base _) (rE_T (s := false) (e := false) (c := 10) rfl (pd rfl) (by decide) s1 s2 rfl (by simp [he]))) hq (by kernel_rfl)
      · rw [if_neg he] at hq
        exact bad (t_app (base _) (rE_T (s := false) (e := true) (c := 10) rfl (pd rfl) (by decide) s1 s2 rfl (by simp [he]))) hq (by kernel_rfl)
theorem read_loop_f (l : List UInt8) (w : World) (hl : l.length ≤ 4000) (hm : minusOf l = false) (a : Act) (w1 : World) (hR : RdS w l (restOf l) false 0 a w1) : x_read.wp Tryz.prog (bodyPost Tryz.prog Tryz.f12 (RRead w l)) a w1 := by
  have hTl : (restOf l).length ≤ 4000 := Nat.le_trans (restOf_len l) hl
  obtain ⟨T, hT⟩ : ∃ T, T = restOf l := ⟨_, rfl⟩
  rw [← hT] at hR hTl
  show (Code.seq (.block 0 (.loop l_read)) (seqR x_read)).wp Tryz.prog _ a w1
  refine wp_seq (while_is (Θ := Nat) (fun i a w1 => i ≤ T.length ∧ (∀ c ∈ T.take i, c ≠ 47) ∧ RdS w l T false i a w1) (fun i => T.length - i) ?_ 0 ⟨Nat.zero_le _, by simp, hR⟩)
  rintro i a w1 ⟨hi, htk, hR⟩
  have hA := rds_at (csz := [1, 1, 1, 1, 1, 1, 1, 1, 1, 1, 1, 3, 3, 1, 1]) (numc := [true, true, true, true, true, true, true, true, false, false, false, true, true, true, true]) (okT := [33]) (cl := cl_rl l T i [] [] 0) (p0 := op 0) (p4 := op 1) (p5 := vp (.bool false)) (p6 := op 2) hR ((op_is rfl).2 rfl) ((op_is rfl).2 rfl) (vp_is.2 rfl) ((op_is rfl).2 rfl)
  have back : ∀ {c j : Nat} {a' : Act} {w' : World}, (cl_rl l T i [] [] 0)[c]? = some (clV (ii (j : Int))) → At (C_rl l T i [] [] 0 w) [.box 2 33 zr, .val 0 (op 0), .val 4 (op 1), .val 5 (vp (.bool false)), .val 6 (op c)] a' w' → RdS w l T false j a' w' := fun hc hA => at_rds hA (fun w v hv => (op_is rfl).1 hv) (fun w v hv => (op_is rfl).1 hv) (fun w v hv => vp_is.1 hv) (fun w v hv => (op_is hc).1 hv)
  by_cases hs : i < T.length
  · have hg : T.getD i 0 = T[i] := by simp [List.getD, hs]
    by_cases h47 : T.getD i 0 = 47
    · refine seg_is (rl_C _ _ _ _ _ _ _) (t_app (rA_T (by omega) (decide_eq_true hs)) (rB_T (b := false) hs (decide_eq_false (fun h => h h47)))) (x := .exit 0) (n := 30) (post := [.box 2 33 zr, .val 0 (op 0), .val 4 (op 1), .val 5 (vp (.bool false)), .val 6 (op 2)]) (by kernel_rfl) hA (fun a2 w2 hA => ?_)
      exact read_fin_f l T i w hl hT hm hi htk (.inr h47) a2 w2 (back rfl hA)
    · refine seg_is (rl_C _ _ _ _ _ _ _) (t_app (rA_T (by omega) (decide_eq_true hs)) (rB_T (b := true) hs (decide_eq_true h47))) (x := .normal) (n := 30) (post := [.box 2 33 zr, .val 0 (op 0), .val 4 (op 1), .val 5 (vp (.bool false)), .val 6 (op 5)]) (by kernel_rfl) hA (fun a2 w2 hA => ⟨i + 1, ⟨hs, ?_, back rfl hA⟩, by show T.length - (i + 1) < T.length - i; omega⟩)
      intro c hc
      rw [List.take_add_one, List.getElem?_eq_getElem hs] at hc
      rcases List.mem_append.1 hc with h | h
      · exact htk c h
      · have : c = T[i] := by simpa using h
        rw [this, ← hg]
        exact h47
  · refine seg_is (rl_C _ _ _ _ _ _ _) (rA_T (by omega) (decide_eq_false hs)) (x := .exit 0) (n := 30) (post := [.box 2 33 zr, .val 0 (op 0), .val 4 (op 1), .val 5 (vp (.bool false)), .val 6 (op 2)]) (by kernel_rfl) hA (fun a2 w2 hA => ?_)
    exact read_fin_f l T i w hl hT hm hi htk (.inl (by omega)) a2 w2 (back rfl hA)
theorem read_ok (l : List UInt8) (w : World) (hl : l.length ≤ 4000) : Calls Tryz.prog 12 #[str l] w (RRead w l) := by
  have hs : decide (4000 < l.length) = false := decide_eq_false (by omega)
  refine calls_at (C := C_r0 l w) (f := 12) (args := [op 0]) Tryz.func12 (c := .seq (seqL b_read) (.seq (seqL (seqR b_read)) (.seq (seqL (seqR (seqR b_read))) (.seq (seqL (seqR (seqR (seqR b_read)))) (.seq (seqL (seqR (seqR (seqR (seqR b_read))))) x_read))))) rfl rfl (Nat.le_of_ble_eq_true rfl) (vs := [str l]) ⟨_, _, rfl, (op_is rfl).2 rfl, rfl⟩ (fun a hA => ?_)
  refine wp_seq (seg_is (r0_C _ _) (T := []) forall_nil (x := .normal) (n := 30) (post := [.box 2 33 zr, .val 0 (op 0)]) (by kernel_rfl) hA (fun a1 w1 hA => ?_))
  refine wp_seq (seg_is (r0_C _ _) (r0_T l w hs rfl) (x := .normal) (n := 30) (post := [.box 2 33 zr, .val 0 (op 0)]) (by kernel_rfl) hA (fun a2 w2 hA => ?_))
  refine wp_seq (seg_is (r0_C _ _) (T := []) forall_nil (x := .normal) (n := 30) (post := [.box 2 33 zr, .val 0 (op 0), .val 4 (op 0), .val 5 (vp (.bool false))]) (by kernel_rfl) hA (fun a3 w3 hA => ?_))
  have more : ∀ {c : Nat} {s : Bool} {a : Act} {w1 : World}, (cl_r0 l)[c]? = some (clV (str (restOf l))) → minusOf l = s → At (C_r0 l w) [.box 2 33 zr, .val 0 (op 0), .val 4 (op c), .val 5 (vp (.bool s)), .val 6 (vp (ii 0))] a w1 → x_read.wp Tryz.prog (bodyPost Tryz.prog Tryz.f12 (RRead w l)) a w1 := by
    intro c s a w1 hc hm hA
    have hR := at_rds (l := l) (T := restOf l) (neg := s) (i := 0) hA (fun w v hv => (op_is rfl).1 hv) (fun w v hv => (op_is hc).1 hv) (fun w v hv => vp_is.1 hv) (fun w v hv => vp_is.1 hv)
    cases s with
    | true => exact read_loop_t l w hl hm a w1 hR
    | false => exact read_loop_f l w hl hm a w1 hR
  by_cases h0 : 0 < l.length
  · have hg : l.getD 0 0 = l[0] := by simp [List.getD, h0]
    have hmi : minusOf l = decide ((l.getD 0 0).toNat = 45) := by
      unfold minusOf
      rw [hg]
      cases l with
      | nil => simp at h0
      | cons c l =>
        by_cases hc : c = 45
        · subst hc; rfl
        · have : ¬ c.toNat = 45 := fun e => hc (UInt8.toNat_inj.1 (by rw [e]; rfl))
          simp [hc, this]
    cases hm : decide ((l.getD 0 0).toNat = 45) with
    | true =>
      rw [hm] at hmi
      refine wp_seq (seg_is (r0_C _ _) (t_app (r0_T l w hs (decide_eq_true h0)) (r1_T l w h0 hm)) (x := .normal) (n := 30) (post := [.box 2 33 zr, .val 0 (op 0), .val 4 (op 1), .val 5 (vp (.bool true))]) (by kernel_rfl) hA (fun a4 w4 hA => ?_))
      refine wp_seq (seg_is (r0_C _ _) (T := []) forall_nil (x := .normal) (n := 30) (post := [.box 2 33 zr, .val 0 (op 0), .val 4 (op 1), .val 5 (vp (.bool true)), .val 6 (vp (ii 0))]) (by kernel_rfl) hA (fun a5 w5 hA => ?_))
      exact more (c := 1) (by show some (clV (str (l.drop 1))) = _; unfold restOf; rw [hmi]; simp) hmi hA
    | false =>
      rw [hm] at hmi
      refine wp_seq (seg_is (r0_C _ _) (t_app (r0_T l w hs (decide_eq_true h0)) (r1_T l w h0 hm)) (x := .normal) (n := 30) (post := [.box 2 33 zr, .val 0 (op 0), .val 4 (op 0), .val 5 (vp (.bool false))]) (by kernel_rfl) hA (fun a4 w4 hA => ?_))
      refine wp_seq (seg_is (r0_C _ _) (T := []) forall_nil (x := .normal) (n := 30) (post := [.box 2 33 zr, .val 0 (op 0), .val 4 (op 0), .val 5 (vp (.bool false)), .val 6 (vp (ii 0))]) (by kernel_rfl) hA (fun a5 w5 hA => ?_))
      exact more (c := 0) (by show some (clV (str l)) = _; unfold restOf; rw [hmi]; rfl) hmi hA
  · have hmi : minusOf l = false := by
      cases l with
      | nil => rfl
      | cons c l => simp at h0
    refine wp_seq (seg_is (r0_C _ _) (r0_T l w hs (decide_eq_false h0)) (x := .normal) (n := 30) (post := [.box 2 33 zr, .val 0 (op 0), .val 4 (op 0), .val 5 (vp (.bool false))]) (by kernel_rfl) hA (fun a4 w4 hA => ?_))
    refine wp_seq (seg_is (r0_C _ _) (T := []) forall_nil (x := .normal) (n := 30) (post := [.box 2 33 zr, .val 0 (op 0), .val 4 (op 0), .val 5 (vp (.bool false)), .val 6 (vp (ii 0))]) (by kernel_rfl) hA (fun a5 w5 hA => ?_))
    exact more (c := 0) (by show some (clV (str l)) = _; unfold restOf; rw [hmi]; rfl) hmi hA
theorem rread_any (l : List UInt8) (w : World) : Calls Tryz.prog 12 #[str l] w (RRead w l) := by
  by_cases h : 4000 < l.length
  · exact read_long l w h
  · exact read_ok l w (by omega)
end Sym
open Go Go.RowKit Go.Proofs Lim
namespace Sym
section
variable {csz : List Nat} {numc : List Bool} {okT : List Nat} {nt : Nat} {cl : List Cl} {w0 : World} {w : World} {v z : Value} {p1 p2 p3 p4 : Pat} {res : RPat} {c d c1 c2 c3 c4 c5 c6 : Nat} {a b l : List UInt8} {r s : Rat} {k k1 k2 k3 : Nat} {i j : Int}
theorem e_read (hG : Gr w0) (hl : l.length ≤ 100000) (h1 : PV csz numc okT nt cl w0 p1 (str l)) (hr : (readQ l).1 = r) (hi : (readQ l).2 = i) (z : Siz r k) (h3 : cl[c3]? = some (clQ r k)) {q : Pat} (hq : ∀ w, q.is (mkC csz numc okT nt cl w0) w (ii i)) : V csz numc okT nt cl w0 (.call 11) [p1] (.tup [qp c3, q]) := by
  refine ⟨enters_of Tryz.func11 (by kernel_rfl) rfl, fun w vs hb hvs => ?_⟩
  obtain ⟨v1, _, rfl, h4, rfl⟩ := hvs
  obtain rfl := h1 _ _ h4
  refine (read_any l w hl (hG.below hb hG.size)).mono ?_
  rintro e w' ⟨v, rfl, hv, hb'⟩
  rw [hr] at hv
  rw [hi]
  exact ⟨_, rfl, ⟨_, ⟨_, _, rfl, (qp_is h3).2 ⟨hv, z⟩, _, _, rfl, hq w', rfl⟩, rfl⟩, hb'⟩
theorem e_rread (h1 : PV csz numc okT nt cl w0 p1 (str l)) (hr : (readQ l).1 = r) (hi : (readQ l).2 = i) (z : Siz r k) (h3 : cl[c3]? = some (clR r k)) {q : Pat} (hq : ∀ w, q.is (mkC csz numc okT nt cl w0) w (ii i)) : V csz numc okT nt cl w0 (.call 12) [p1] (.tup [rq c3, q]) := by
  refine ⟨enters_of Tryz.func12 (by kernel_rfl) rfl, fun w vs hb hvs => ?_⟩
  obtain ⟨v1, _, rfl, h4, rfl⟩ := hvs
  obtain rfl := h1 _ _ h4
  refine (rread_any l w).mono ?_
  rintro e w' ⟨v, rfl, hv, hb'⟩
  rw [hr] at hv
  rw [hi]
  exact ⟨_, rfl, ⟨_, ⟨_, _, rfl, (rq_is h3).2 ⟨hv, z⟩, _, _, rfl, hq w', rfl⟩, rfl⟩, hb'⟩
end
end Sym
open Go Go.RowKit Go.Proofs Lim
namespace Sym
section
variable {csz : List Nat} {numc : List Bool} {okT : List Nat} {nt : Nat} {cl : List Cl} {w0 : World} {w : World} {v : Value} {p1 p2 p3 p4 : Pat} {c d c1 c2 c3 c4 c5 c6 : Nat} {r s t r1 r2 r3 r4 : Rat} {k k1 k2 k3 k4 k5 k6 : Nat}
theorem siz_l1 {a b : Rat} (za : Siz a k) (zb : Siz b k) : Siz (lowOf a [b]) k := lowOf_siz za (by intro x hx; simp at hx; subst hx; exact zb)
theorem siz_h1 {a b : Rat} (za : Siz a k) (zb : Siz b k) : Siz (highOf a [b]) k := highOf_siz za (by intro x hx; simp at hx; subst hx; exact zb)
theorem siz_l3 {a b c d : Rat} (za : Siz a k) (zb : Siz b k) (zc : Siz c k) (zd : Siz d k) : Siz (lowOf a [b, c, d]) k := lowOf_siz za (by intro x hx; simp at hx; rcases hx with rfl | rfl | rfl <;> assumption)
theorem siz_h3 {a b c d : Rat} (za : Siz a k) (zb : Siz b k) (zc : Siz c k) (zd : Siz d k) : Siz (highOf a [b, c, d]) k := highOf_siz za (by intro x hx; simp at hx; rcases hx with rfl | rfl | rfl <;> assumption)
theorem siz_lt {b : Bool} {x y z : Rat} (zx : Siz x k) (zy : Siz y k) (zz : Siz z k) : Siz (lowOf x (turnVals b y z)) k ∧ Siz (highOf x (turnVals b y z)) k := by
  unfold turnVals
  cases b
  · exact ⟨siz_l1 zx zy, siz_h1 zx zy⟩
  · exact ⟨lowOf_siz zx (by intro x hx; simp at hx; rcases hx with rfl | rfl <;> assumption), highOf_siz zx (by intro x hx; simp at hx; rcases hx with rfl | rfl <;> assumption)⟩
theorem e_between (h1 : PQ csz numc okT nt cl w0 p1 r k1) (h2 : PQ csz numc okT nt cl w0 p2 s k2) (h5 : cl[c5]? = some (clQ (lowOf r [s]) k5)) (h6 : cl[c6]? = some (clQ (highOf r [s]) k6)) (hk : fits (k1 + k2) k5 = true) (hk' : fits (k1 + k2) k6 = true) :
    V csz numc okT nt cl w0 (.call 55) [p1, p2] (.val (sp c5 c6)) := by
  have hk := fits_le hk
  have hk' := fits_le hk'
  refine ⟨enters_of Tryz.func55 (by kernel_rfl) rfl, fun w vs hb hvs => ?_⟩
  obtain ⟨v1, _, rfl, h7, v2, _, rfl, h8, rfl⟩ := hvs
  have h7 := h1 _ _ h7
  have h8 := h2 _ _ h8
  refine (between_any v1 v2 r s (k1 + k2) w h7.1 h8.1 (h7.2.le (by omega)) (h8.2.le (by omega)) (by omega)).mono ?_
  rintro e w' ⟨v, rfl, hv, hb'⟩
  exact ⟨v, rfl, (sp_is h5 h6).2 ⟨hv, (siz_l1 (k := k1 + k2) (h7.2.le (by omega)) (h8.2.le (by omega))).le hk.1, (siz_h1 (k := k1 + k2) (h7.2.le (by omega)) (h8.2.le (by omega))).le hk'.1⟩, hb'⟩
theorem e_has {x : Bool} (h1 : PS csz numc okT nt cl w0 p1 r1 k1 r2 k2) (h3 : PQ csz numc okT nt cl w0 p3 r k3) (hk : fits (k1 + k2 + k3) 1000000 = true) (hx : hasQ r1 r2 r = x) :
    V csz numc okT nt cl w0 (.call 56) [p1, p3] (.val (vp (.bool x))) := by
  have hk := fits_le hk
  refine ⟨enters_of Tryz.func56 (by kernel_rfl) rfl, fun w vs hb hvs => ?_⟩
  obtain ⟨v1, _, rfl, h7, v2, _, rfl, h8, rfl⟩ := hvs
  have h7 := h1 _ _ h7
  have h8 := h3 _ _ h8
  refine (has_any v1 v2 r1 r2 r (k1 + k2 + k3) w h7.1 h8.1 (h7.2.1.le (by omega)) (h7.2.2.le (by omega)) (h8.2.le (by omega)) (by omega)).mono ?_
  rintro e w' ⟨rfl, hb'⟩
  rw [hx]
  exact ⟨_, rfl, vp_r _ _ _, hb'⟩
theorem e_spplus (hG : Gr w0) (h1 : PS csz numc okT nt cl w0 p1 r1 k1 r2 k2) (h3 : PS csz numc okT nt cl w0 p3 r3 k3 r4 k4) (h5 : cl[c5]? = some (clQ (wLow (fun r s => r + s) r1 r2 r3 r4) k5)) (h6 : cl[c6]? = some (clQ (wHigh (fun r s => r + s) r1 r2 r3 r4) k6))
    (hk : fits (2 * (k1 + k2 + k3 + k4) + 1) k5 = true) (hk' : fits (2 * (k1 + k2 + k3 + k4) + 1) k6 = true) : V csz numc okT nt cl w0 (.call 47) [p1, p3] (.val (sp c5 c6)) := by
  have hk := fits_le hk
  have hk' := fits_le hk'
  exact ent_sss (enters_of Tryz.func47 (by kernel_rfl) rfl) h1 h3 h5 h6 (fun z1 z2 z3 z4 =>
    ⟨(siz_l3 (k := 2 * (k1 + k2 + k3 + k4) + 1) ((z1.add z3).le (by omega)) ((z1.add z4).le (by omega)) ((z2.add z3).le (by omega)) ((z2.add z4).le (by omega))).le hk.1,
     (siz_h3 (k := 2 * (k1 + k2 + k3 + k4) + 1) ((z1.add z3).le (by omega)) ((z1.add z4).le (by omega)) ((z2.add z3).le (by omega)) ((z2.add z4).le (by omega))).le hk'.1⟩)
    (fun W v1 v2 hb q1 q2 z1 z2 z3 z4 => spplus_any v1 v2 r1 r2 r3 r4 (k1 + k2 + k3 + k4) W q1 q2 (z1.le (by omega)) (z2.le (by omega)) (z3.le (by omega)) (z4.le (by omega)) (by omega) (hG.below hb hG.size))
theorem e_spminus (hG : Gr w0) (h1 : PS csz numc okT nt cl w0 p1 r1 k1 r2 k2) (h3 : PS csz numc okT nt cl w0 p3 r3 k3 r4 k4) (h5 : cl[c5]? = some (clQ (wLow (fun r s => r - s) r1 r2 r3 r4) k5)) (h6 : cl[c6]? = some (clQ (wHigh (fun r s => r - s) r1 r2 r3 r4) k6))
    (hk : fits (2 * (k1 + k2 + k3 + k4) + 1) k5 = true) (hk' : fits (2 * (k1 + k2 + k3 + k4) + 1) k6 = true) : V csz numc okT nt cl w0 (.call 49) [p1, p3] (.val (sp c5 c6)) := by
  have hk := fits_le hk
  have hk' := fits_le hk'
  exact ent_sss (enters_of Tryz.func49 (by kernel_rfl) rfl) h1 h3 h5 h6 (fun z1 z2 z3 z4 =>
    ⟨(siz_l3 (k := 2 * (k1 + k2 + k3 + k4) + 1) ((z1.sub z3).le (by omega)) ((z1.sub z4).le (by omega)) ((z2.sub z3).le (by omega)) ((z2.sub z4).le (by omega))).le hk.1,
     (siz_h3 (k := 2 * (k1 + k2 + k3 + k4) + 1) ((z1.sub z3).le (by omega)) ((z1.sub z4).le (by omega)) ((z2.sub z3).le (by omega)) ((z2.sub z4).le (by omega))).le hk'.1⟩)
    (fun W v1 v2 hb q1 q2 z1 z2 z3 z4 => spminus_any v1 v2 r1 r2 r3 r4 (k1 + k2 + k3 + k4) W q1 q2 (z1.le (by omega)) (z2.le (by omega)) (z3.le (by omega)) (z4.le (by omega)) (by omega) (hG.below hb hG.size))
theorem e_sptimes (hG : Gr w0) (h1 : PS csz numc okT nt cl w0 p1 r1 k1 r2 k2) (h3 : PS csz numc okT nt cl w0 p3 r3 k3 r4 k4) (h5 : cl[c5]? = some (clQ (wLow (fun r s => r * s) r1 r2 r3 r4) k5)) (h6 : cl[c6]? = some (clQ (wHigh (fun r s => r * s) r1 r2 r3 r4) k6))
    (hk : fits (2 * (k1 + k2 + k3 + k4) + 1) k5 = true) (hk' : fits (2 * (k1 + k2 + k3 + k4) + 1) k6 = true) : V csz numc okT nt cl w0 (.call 51) [p1, p3] (.val (sp c5 c6)) := by
  have hk := fits_le hk
  have hk' := fits_le hk'
  exact ent_sss (enters_of Tryz.func51 (by kernel_rfl) rfl) h1 h3 h5 h6 (fun z1 z2 z3 z4 =>
    ⟨(siz_l3 (k := 2 * (k1 + k2 + k3 + k4) + 1) ((z1.mul z3).le (by omega)) ((z1.mul z4).le (by omega)) ((z2.mul z3).le (by omega)) ((z2.mul z4).le (by omega))).le hk.1,
     (siz_h3 (k := 2 * (k1 + k2 + k3 + k4) + 1) ((z1.mul z3).le (by omega)) ((z1.mul z4).le (by omega)) ((z2.mul z3).le (by omega)) ((z2.mul z4).le (by omega))).le hk'.1⟩)
    (fun W v1 v2 hb q1 q2 z1 z2 z3 z4 => sptimes_any v1 v2 r1 r2 r3 r4 (k1 + k2 + k3 + k4) W q1 q2 (z1.le (by omega)) (z2.le (by omega)) (z3.le (by omega)) (z4.le (by omega)) (by omega) (hG.below hb hG.size))
theorem e_hull (h1 : PS csz numc okT nt cl w0 p1 r1 k1 r2 k2) (h3 : PS csz numc okT nt cl w0 p3 r3 k3 r4 k4) (h5 : cl[c5]? = some (clQ (lowOf r1 [r2, r3, r4]) k5)) (h6 : cl[c6]? = some (clQ (highOf r1 [r2, r3, r4]) k6))
    (hk : fits (k1 + k2 + k3 + k4) k5 = true) (hk' : fits (k1 + k2 + k3 + k4) k6 = true) : V csz numc okT nt cl w0 (.call 53) [p1, p3] (.val (sp c5 c6)) := by
  have hk := fits_le hk
  have hk' := fits_le hk'
  exact ent_sss (enters_of Tryz.func53 (by kernel_rfl) rfl) h1 h3 h5 h6 (fun z1 z2 z3 z4 =>
    ⟨(siz_l3 (k := k1 + k2 + k3 + k4) (z1.le (by omega)) (z2.le (by omega)) (z3.le (by omega)) (z4.le (by omega))).le hk.1, (siz_h3 (k := k1 + k2 + k3 + k4) (z1.le (by omega)) (z2.le (by omega)) (z3.le (by omega)) (z4.le (by omega))).le hk'.1⟩)
    (fun W v1 v2 hb q1 q2 z1 z2 z3 z4 => hull_any v1 v2 r1 r2 r3 r4 (k1 + k2 + k3 + k4) W q1 q2 (z1.le (by omega)) (z2.le (by omega)) (z3.le (by omega)) (z4.le (by omega)) (by omega))
theorem e_square (hG : Gr w0) (h1 : PS csz numc okT nt cl w0 p1 r1 k1 r2 k2) (h5 : cl[c5]? = some (clQ (lowOf (r1 * r1) (turnVals (hasQ r1 r2 0) (r2 * r2) (0 * 0))) k5)) (h6 : cl[c6]? = some (clQ (highOf (r1 * r1) (turnVals (hasQ r1 r2 0) (r2 * r2) (0 * 0))) k6))
    (hk : fits (2 * (k1 + k2)) k5 = true) (hk' : fits (2 * (k1 + k2)) k6 = true) : V csz numc okT nt cl w0 (.call 58) [p1] (.val (sp c5 c6)) := by
  have hk := fits_le hk
  have hk' := fits_le hk'
  refine ent_ss (enters_of Tryz.func58 (by kernel_rfl) rfl) h1 h5 h6 (fun z1 z2 => ?_)
    (fun W v1 hb q1 z1 z2 => square_any v1 r1 r2 (k1 + k2) W q1 (z1.le (by omega)) (z2.le (by omega)) (by omega) (hG.below hb hG.size))
  have k1' := siz_zero_bits k1 z1
  have := siz_lt (k := 2 * (k1 + k2)) (b := hasQ r1 r2 0) ((z1.mul z1).le (by omega)) ((z2.mul z2).le (by omega)) (by simpa using Siz.zero _ (by omega) : Siz (0 * 0) (2 * (k1 + k2)))
  exact ⟨this.1.le hk.1, this.2.le hk'.1⟩
theorem e_spabs (hG : Gr w0) (h1 : PS csz numc okT nt cl w0 p1 r1 k1 r2 k2) (h5 : cl[c5]? = some (clQ (lowOf (absQ r1) (turnVals (hasQ r1 r2 0) (absQ r2) (absQ 0))) k5)) (h6 : cl[c6]? = some (clQ (highOf (absQ r1) (turnVals (hasQ r1 r2 0) (absQ r2) (absQ 0))) k6))
    (hk : fits (2 * (k1 + k2)) k5 = true) (hk' : fits (2 * (k1 + k2)) k6 = true) : V csz numc okT nt cl w0 (.call 60) [p1] (.val (sp c5 c6)) := by
  have hk := fits_le hk
  have hk' := fits_le hk'
  refine ent_ss (enters_of Tryz.func60 (by kernel_rfl) rfl) h1 h5 h6 (fun z1 z2 => ?_)
    (fun W v1 hb q1 z1 z2 => spabs_any v1 r1 r2 (k1 + k2) W q1 (z1.le (by omega)) (z2.le (by omega)) (by omega) (hG.below hb hG.size))
  have k1' := siz_zero_bits k1 z1
  have := siz_lt (k := 2 * (k1 + k2)) (b := hasQ r1 r2 0) ((absQ_siz z1).le (by omega)) ((absQ_siz z2).le (by omega)) ((absQ_siz (Siz.zero (2 * (k1 + k2)) (by omega))))
  exact ⟨this.1.le hk.1, this.2.le hk'.1⟩
theorem inv_siz_of {c d x : Rat} (h0 : hasQ c d 0 = false) (hx : x = c ∨ x = d) (z : Siz x k) : Siz x⁻¹ k := z.inv (num_of_has h0 hx)
theorem e_spover (hG : Gr w0) (h1 : PS csz numc okT nt cl w0 p1 r1 k1 r2 k2) (h3 : PS csz numc okT nt cl w0 p3 r3 k3 r4 k4) (h5 : cl[c5]? = some (clQ (wLow (fun r s => r * s⁻¹) r1 r2 r3 r4) k5)) (h6 : cl[c6]? = some (clQ (wHigh (fun r s => r * s⁻¹) r1 r2 r3 r4) k6))
    (hk : fits (2 * (k1 + k2 + k3 + k4)) k5 = true) (hk' : fits (2 * (k1 + k2 + k3 + k4)) k6 = true) (h0 : hasQ r3 r4 0 = false) : V csz numc okT nt cl w0 (.call 64) [p1, p3] (.tup [sp c5 c6, vp (.int .i64 0)]) := by
  have hk := fits_le hk
  have hk' := fits_le hk'
  refine ⟨enters_of Tryz.func64 (by kernel_rfl) rfl, fun w vs hb hvs => ?_⟩
  obtain ⟨v1, _, rfl, h7, v2, _, rfl, h8, rfl⟩ := hvs
  obtain ⟨q1, z1, z2⟩ := h1 _ _ h7
  obtain ⟨q2, z3, z4⟩ := h3 _ _ h8
  have i3 := inv_siz_of h0 (.inl rfl) z3
  have i4 := inv_siz_of h0 (.inr rfl) z4
  refine (spover_any v1 v2 r1 r2 r3 r4 (k1 + k2 + k3 + k4) w q1 q2 h0 (z1.le (by omega)) (z2.le (by omega)) (z3.le (by omega)) (z4.le (by omega)) (by omega) (hG.below hb hG.size)).mono ?_
  rintro e w' ⟨v, rfl, hv, hb'⟩
  exact ⟨_, rfl, ⟨_, ⟨_, _, rfl, (sp_is h5 h6).2 ⟨hv, (siz_l3 (k := 2 * (k1 + k2 + k3 + k4)) ((z1.mul i3).le (by omega)) ((z1.mul i4).le (by omega)) ((z2.mul i3).le (by omega)) ((z2.mul i4).le (by omega))).le hk.1,
    (siz_h3 (k := 2 * (k1 + k2 + k3 + k4)) ((z1.mul i3).le (by omega)) ((z1.mul i4).le (by omega)) ((z2.mul i3).le (by omega)) ((z2.mul i4).le (by omega))).le hk'.1⟩, _, _, rfl, vp_is.2 rfl, rfl⟩, rfl⟩, hb'⟩
theorem e_spover0 (h1 : PS csz numc okT nt cl w0 p1 r1 k1 r2 k2) (h3 : PS csz numc okT nt cl w0 p3 r3 k3 r4 k4) (h5 : cl[c5]? = some (clQ 0 k5)) (hk : fits (k3 + k4 + 1) k5 = true) (h0 : hasQ r3 r4 0 = true) :
    V csz numc okT nt cl w0 (.call 64) [p1, p3] (.tup [sp c5 c5, vp (.int .i64 10)]) := by
  have hk := fits_le hk
  refine ⟨enters_of Tryz.func64 (by kernel_rfl) rfl, fun w vs hb hvs => ?_⟩
  obtain ⟨v1, _, rfl, h7, v2, _, rfl, h8, rfl⟩ := hvs
  obtain ⟨q1, z1, z2⟩ := h1 _ _ h7
  obtain ⟨q2, z3, z4⟩ := h3 _ _ h8
  refine (spover_zero v1 v2 r1 r2 r3 r4 (k3 + k4) w q1 q2 h0 (z3.le (by omega)) (z4.le (by omega)) (by omega)).mono ?_
  rintro e w' ⟨rfl, hb'⟩
  exact ⟨_, rfl, ⟨_, ⟨_, _, rfl, (sp_is h5 h5).2 ⟨zspan_is _, Siz.zero _ (by omega), Siz.zero _ (by omega)⟩, _, _, rfl, vp_is.2 rfl, rfl⟩, rfl⟩, hb'⟩
def TextsAre (cl : List Cl) : List Grp → List (List UInt8) → Prop
  | [], ls => ls = []
  | .cls c 1 :: gs, ls => ∃ l ls', ls = l :: ls' ∧ cl[c]? = some (clV (str l)) ∧ TextsAre cl gs ls'
  | _, _ => False
theorem texts_vals {gs : List Grp} {ls : List (List UInt8)} (h : TextsAre cl gs ls) {vs : List Value} (hv : GrpsAre (mkC csz numc okT nt cl w0) w gs vs) : vs = ls.map str := by
  induction gs generalizing ls vs with
  | nil => rw [show ls = [] from h]; exact hv
  | cons g gs ih =>
    match g, h with
    | .cls c 1, ⟨l, ls', h1, h2, h3⟩ =>
      obtain ⟨xs, ys, rfl, ⟨f, hE, rfl⟩, hy⟩ := hv
      simp only [mkC, h2] at hE
      have hE : f 0 = str l := hE
      rw [h1, ih h3 hy]
      simp [List.range_succ, hE]
theorem e_long {gs : List Grp} {ls : List (List UInt8)} {n : Nat} {x : Bool} (h1 : TextsAre cl gs ls) (hn : n = ls.length) (hl : Nat.ble ls.length 1000 = true) (hx : (ls.any (fun x => decide (120 < x.length))) = x) : V csz numc okT nt cl w0 (.call 23) [.slc 9 n gs] (.val (vp (.bool x))) := by
  refine ⟨enters_of Tryz.func23 (by kernel_rfl) rfl, fun w vs hb hvs => ?_⟩
  obtain ⟨v1, _, rfl, ⟨k, us, rfl, hk, hus⟩, rfl⟩ := hvs
  have hus := texts_vals h1 hus
  subst hus hn
  have hl := Nat.le_of_ble_eq_true hl
  refine (long_any k ls w (fun i hi => ?_) (by omega)).mono ?_
  · simp [World.cell?, hk, hi]
  · rintro e w' ⟨rfl, rfl⟩
    rw [hx]
    exact ⟨_, rfl, vp_r _ _ _, Below.refl _ _⟩
theorem qsl_one {v : Value} (h : cl[c]? = some (clQ r k)) (hv : (Pat.slc 26 1 [.cls c 4]).is (mkC csz numc okT nt cl w0) w v) : QSl w v [r] ∧ Siz r k := by
  obtain ⟨b, us, rfl, hb, ⟨xs, ys, rfl, ⟨f, hE, rfl⟩, hy⟩⟩ := hv
  rw [show ys = [] from hy] at hb
  simp only [mkC, h] at hE
  obtain ⟨s, a, d, p, e⟩ := hE.1.form
  refine ⟨⟨_, 1, rfl, Nat.le_refl _, by decide, fun _ => ⟨b, 0, rfl, fun i hi => ?_⟩⟩, hE.2⟩
  have : i = 0 := by simpa using hi
  subst this
  injection e with e
  have g0 : f 0 = .bool s := by have := congrArg (fun x => x[0]?) e; simpa using this
  have g1 : f 1 = u a := by have := congrArg (fun x => x[1]?) e; simpa using this
  have g2 : f 2 = u d := by have := congrArg (fun x => x[2]?) e; simpa using this
  have g3 : f 3 = .pointer p := by have := congrArg (fun x => x[3]?) e; simpa using this
  refine ⟨.agg #[.bool s, u a, u d, .pointer p], ⟨s, a, d, p, rfl, ?_, ?_, ?_, ?_⟩, by simpa [g0, g1, g2, g3] using hE.1⟩
  · simp [World.cell?, hb, cells4, g0]
  · simp [World.cell?, hb, cells4, g1]
  · simp [World.cell?, hb, cells4, g2]
  · simp [World.cell?, hb, cells4, g3]
theorem e_around1 (h1 : PQ csz numc okT nt cl w0 p1 r k1) (h2 : cl[c2]? = some (clQ s k2)) (h5 : cl[c5]? = some (clQ (lowOf r [s]) k5)) (h6 : cl[c6]? = some (clQ (highOf r [s]) k6)) (hk : fits (k1 + k2) k5 = true) (hk' : fits (k1 + k2) k6 = true) :
    V csz numc okT nt cl w0 (.call 105) [p1, .slc 26 1 [.cls c2 4]] (.val (sp c5 c6)) := by
  have hk := fits_le hk
  have hk' := fits_le hk'
  refine ⟨enters_of Tryz.func105 (by kernel_rfl) rfl, fun w vs hb hvs => ?_⟩
  obtain ⟨v1, _, rfl, h7, v2, _, rfl, h8, rfl⟩ := hvs
  have h7 := h1 _ _ h7
  have h8 := qsl_one h2 h8
  refine (around_any v1 v2 r [s] (k1 + k2) w h7.1 h8.1 (h7.2.le (by omega)) (by intro x hx; simp at hx; subst hx; exact h8.2.le (by omega)) (by omega) (by simp)).mono ?_
  rintro e w' ⟨v, rfl, hv, hb'⟩
  exact ⟨v, rfl, (sp_is h5 h6).2 ⟨hv, (siz_l1 (k := k1 + k2) (h7.2.le (by omega)) (h8.2.le (by omega))).le hk.1, (siz_h1 (k := k1 + k2) (h7.2.le (by omega)) (h8.2.le (by omega))).le hk'.1⟩, hb'⟩
theorem e_sorted (h1 : PS csz numc okT nt cl w0 p1 r k1 s k2) (h5 : cl[c5]? = some (clQ (lowOf r [s]) k5)) (h6 : cl[c6]? = some (clQ (highOf r [s]) k6)) (hk : fits (k1 + k2) k5 = true) (hk' : fits (k1 + k2) k6 = true) :
    V csz numc okT nt cl w0 (.call 108) [p1] (.val (sp c5 c6)) := by
  have hk := fits_le hk
  have hk' := fits_le hk'
  exact ent_ss (enters_of Tryz.func108 (by kernel_rfl) rfl) h1 h5 h6 (fun z1 z2 => ⟨(siz_l1 (k := k1 + k2) (z1.le (by omega)) (z2.le (by omega))).le hk.1, (siz_h1 (k := k1 + k2) (z1.le (by omega)) (z2.le (by omega))).le hk'.1⟩)
    (fun W v hb q z1 z2 => sorted_any v r s (k1 + k2) W q (z1.le (by omega)) (z2.le (by omega)) (by omega))
theorem cmp3 (r s : Rat) : cmpQ r s = -1 ∨ cmpQ r s = 0 ∨ cmpQ r s = 1 := by
  unfold cmpQ
  split
  · exact .inl rfl
  · split
    · exact .inr (.inr rfl)
    · exact .inr (.inl rfl)
end
end Sym
open Go Go.RowKit Go.Proofs Lim
namespace Sym
section
variable {csz : List Nat} {numc : List Bool} {okT : List Nat} {nt : Nat} {cl : List Cl} {w0 : World} {w : World} {v z : Value} {p1 p2 p3 p4 : Pat} {res : RPat} {c d c1 c2 c3 c4 c5 c6 : Nat} {a b l : List UInt8} {r s : Rat} {k k1 k2 k3 : Nat} {i j : Int}
end
theorem both_ok (l : List UInt8) (r : Rat) (k : Nat) (w : World) (hG : Gr w) (hl : l.length ≤ 100000) (hr : (readQ l).1 = r) (z : Siz r k) : Calls Tryz.prog 24 #[str l] w (fun e w' => ∃ x y, e = .returned (.tuple #[x, y]) ∧ IsQ w' x r ∧ RQ w' y r ∧ Below w.heap.size w w') := by
  have hC : (mkC [1, 4, 3, 1] [true, true, true, true] [26, 33] 20 [clV (str l), clQ r k, clR r k, clV (ii (readQ l).2)] w).Ok := mkC_ok (oks_cons (clVs_ok _) (oks_cons (clQ_ok qrT.1 _ _) (oks_cons (clR_ok qrT.2 _ _) (oks_cons (clVi_ok _) oks_nil)))) rfl rfl
  have hT : ∀ t ∈ ([⟨.call 11, [op 0], .tup [qp 1, op 3]⟩, ⟨.call 12, [op 0], .tup [rq 2, op 3]⟩] : List Ent), t.Valid (mkC [1, 4, 3, 1] [true, true, true, true] [26, 33] 20 [clV (str l), clQ r k, clR r k, clV (ii (readQ l).2)] w) :=
    forall_cons (e_read hG hl (pv rfl) hr rfl z rfl (fun _ => (op_is rfl).2 rfl)) (forall_cons (e_rread (pv rfl) hr rfl z rfl (fun _ => (op_is rfl).2 rfl)) forall_nil)
  refine (run_mk hC hT 24 Tryz.f24 [op 0] (.tup [qp 1, rq 2]) 60 Tryz.func24 rfl rfl rfl (by kernel_rfl) [str l] ⟨_, _, rfl, (op_is rfl).2 rfl, rfl⟩).mono ?_
  rintro e w' ⟨v, rfl, ⟨vs, ⟨v1, _, rfl, g1, v2, _, rfl, g2, rfl⟩, rfl⟩, hb⟩
  exact ⟨v1, v2, rfl, ((qp_is rfl).1 g1).1, ((rq_is rfl).1 g2).1, hb⟩
section
variable {csz : List Nat} {numc : List Bool} {okT : List Nat} {nt : Nat} {cl : List Cl} {w0 : World} {w : World} {p1 p2 : Pat} {c1 c2 : Nat} {l : List UInt8} {r : Rat} {k1 k2 : Nat}
theorem e_both (hG : Gr w0) (hl : l.length ≤ 100000) (h1 : PV csz numc okT nt cl w0 p1 (str l)) (hr : (readQ l).1 = r) (z : Siz r k1) (h2 : cl[c1]? = some (clQ r k1)) (h3 : cl[c2]? = some (clR r k1)) : V csz numc okT nt cl w0 (.call 24) [p1] (.tup [qp c1, rq c2]) := by
  refine ⟨enters_of Tryz.func24 (by kernel_rfl) rfl, fun w vs hb hvs => ?_⟩
  obtain ⟨v1, _, rfl, h4, rfl⟩ := hvs
  obtain rfl := h1 _ _ h4
  refine (both_ok l r k1 w (hG.below hb hG.size) hl hr z).mono ?_
  rintro e w' ⟨x, y, rfl, g1, g2, hb'⟩
  exact ⟨_, rfl, ⟨_, ⟨_, _, rfl, (qp_is h2).2 ⟨g1, z⟩, _, _, rfl, (rq_is h3).2 ⟨g2, z⟩, rfl⟩, rfl⟩, hb'⟩
end
section
variable {la lb : List UInt8} {r s o : Rat} {w : World}
end
end Sym
open Go Go.RowKit Go.Proofs Lim
namespace Sym
def RSp (w : World) (v : Value) (lo hi : Rat) : Prop := ∃ a b c d e f, v = .agg #[a, b, c, d, e, f] ∧ RQ w (.agg #[a, b, c]) lo ∧ RQ w (.agg #[d, e, f]) hi
def rsp (c d : Nat) : Pat := .agg [.cls c 3, .cls d 3]
def Lst (w : World) (v : Value) (rs : List Rat) : Prop := ∃ b cap arr fr, v = .slice (some ⟨b, 0, none⟩) rs.length cap ∧ w.heap[b]? = some (.cells arr 33 fr) ∧ ∀ i r, rs[i]? = some r → ∃ x y z, arr[3 * i]? = some x ∧ arr[3 * i + 1]? = some y ∧ arr[3 * i + 2]? = some z ∧ RQ w (.agg #[x, y, z]) r
theorem Lst.below {w w' : World} {v : Value} {rs : List Rat} {B : Nat} (h : Lst w v rs) (hb : Below B w w') (hB : w.heap.size ≤ B) : Lst w' v rs := by
  obtain ⟨b, cap, arr, fr, hv, hc, h1⟩ := h
  have hlt : b < B := Nat.lt_of_lt_of_le (Array.getElem?_eq_some_iff.1 hc).1 hB
  refine ⟨b, cap, arr, fr, hv, (hb.block b hlt).trans hc, fun i r hi => ?_⟩
  obtain ⟨x, y, z, e1, e2, e3, h2⟩ := h1 i r hi
  exact ⟨x, y, z, e1, e2, e3, h2.below hb hB⟩
def ptrL : Value → Nat → Value
  | .slice (some ⟨b, off, none⟩) _ _, i => .pointer (some ⟨b, off + i * 3, none⟩)
  | _, _ => .pointer none
theorem ptrL_one (v : Value) (n : Nat) : (ptrL v n).oneCell' = true := by unfold ptrL; split <;> rfl
theorem Lst.one {w : World} {v : Value} {rs : List Rat} (h : Lst w v rs) : v.oneCell' = true := by
  obtain ⟨b, cap, arr, fr, rfl, _⟩ := h
  rfl
theorem und_rats : Tryz.prog.underlying 92 = some (.slice (Tryz.prog.elem 92)) := by kernel_rfl
theorem elem_rats : Tryz.prog.elem 92 = 33 := by kernel_rfl
theorem size_rat (w : World) : (sizeOf 33).run Tryz.prog w = .ok 3 w := ev_run (by kernel_rfl) w
section
variable {csz : List Nat} {numc : List Bool} {okT : List Nat} {nt : Nat} {cl : List Cl} {w0 : World} {w : World} {v z : Value} {p1 p2 p3 p4 : Pat} {res : RPat} {c d c1 c2 c3 c4 c5 c6 : Nat} {r s t r1 r2 r3 r4 : Rat} {k k1 k2 k3 k4 k5 k6 : Nat} {rs : List Rat}
theorem rsp_is (h : cl[c]? = some (clR r k)) (h' : cl[d]? = some (clR s k1)) : (rsp c d).is (mkC csz numc okT nt cl w0) w v ↔ RSp w v r s ∧ Siz r k ∧ Siz s k1 := by
  constructor
  · rintro ⟨vs, ⟨xs, ys, rfl, ⟨f, hE, rfl⟩, ⟨xs', ys', rfl, ⟨f', hE', rfl⟩, hy⟩⟩, rfl⟩
    rw [show ys' = [] from hy]
    simp only [mkC, h] at hE
    simp only [mkC, h'] at hE'
    exact ⟨⟨f 0, f 1, f 2, f' 0, f' 1, f' 2, rfl, hE.1, hE'.1⟩, hE.2, hE'.2⟩
  · rintro ⟨⟨a, b, c0, d0, e, f, rfl, h1, h2⟩, z1, z2⟩
    refine ⟨[a, b, c0, d0, e, f], ⟨[a, b, c0], [d0, e, f], rfl, ⟨fun j => [a, b, c0].getD j undef, ?_, rfl⟩, ⟨[d0, e, f], [], rfl, ⟨fun j => [d0, e, f].getD j undef, ?_, rfl⟩, rfl⟩⟩, rfl⟩
    · simp only [mkC, h]; exact ⟨h1, z1⟩
    · simp only [mkC, h']; exact ⟨h2, z2⟩
def PRS (csz : List Nat) (numc : List Bool) (okT : List Nat) (nt : Nat) (cl : List Cl) (w0 : World) (p : Pat) (r : Rat) (k : Nat) (s : Rat) (j : Nat) : Prop := ∀ w v, p.is (mkC csz numc okT nt cl w0) w v → RSp w v r s ∧ Siz r k ∧ Siz s j
theorem prs (h : cl[c]? = some (clR r k)) (h' : cl[d]? = some (clR s k1)) : PRS csz numc okT nt cl w0 (rsp c d) r k s k1 := fun _ _ h1 => (rsp_is h h').1 h1
theorem e_rminm (h1 : PR csz numc okT nt cl w0 p1 r k1) (h2 : PR csz numc okT nt cl w0 p2 s k2) (h3 : cl[c3]? = some (clR (minQ r s) k3)) (hk1 : fitr k1 k3 = true) (hk2 : fitr k2 k3 = true) (hk' : fitr k3 5000 = true) : V csz numc okT nt cl w0 (.call 106) [p1, p2] (.val (rq c3)) := by
  have hk1 := fitr_le hk1
  have hk2 := fitr_le hk2
  have hk' := fitr_le hk'
  exact ent_rrr (enters_of Tryz.func106 (by kernel_rfl) rfl) h1 h2 h3 (fun z1 z2 => minQ_siz (z1.le hk1.1) (z2.le hk2.1)) (fun W v1 v2 q1 z1 q2 z2 => rmin_q v1 v2 r s k3 W q1 q2 (z1.le hk1.1) (z2.le hk2.1) hk'.1)
theorem e_rmaxm (h1 : PR csz numc okT nt cl w0 p1 r k1) (h2 : PR csz numc okT nt cl w0 p2 s k2) (h3 : cl[c3]? = some (clR (maxQ r s) k3)) (hk1 : fitr k1 k3 = true) (hk2 : fitr k2 k3 = true) (hk' : fitr k3 5000 = true) : V csz numc okT nt cl w0 (.call 107) [p1, p2] (.val (rq c3)) := by
  have hk1 := fitr_le hk1
  have hk2 := fitr_le hk2
  have hk' := fitr_le hk'
  exact ent_rrr (enters_of Tryz.func107 (by kernel_rfl) rfl) h1 h2 h3 (fun z1 z2 => maxQ_siz (z1.le hk1.1) (z2.le hk2.1)) (fun W v1 v2 q1 z1 q2 z2 => rmax_q v1 v2 r s k3 W q1 q2 (z1.le hk1.1) (z2.le hk2.1) hk'.1)
theorem e_lenL (h1 : PV csz numc okT nt cl w0 p1 v) (hv : Lst w0 v rs) (h3 : RV csz numc okT nt cl w0 res (ii (rs.length : Int))) : V csz numc okT nt cl w0 (.blt .len [92] 3) [p1] res := by
  intro w ρ oo xs ho hb hvs
  obtain ⟨c, hop, hc, hat, hty, rfl⟩ := hd_blt ho
  obtain ⟨v1, _, e1, h4, e2⟩ := hvs
  subst e2
  obtain rfl := h1 _ _ h4
  obtain ⟨b, cap, arr, fr, rfl, _⟩ := hv
  refine ⟨_, w, ?_, h3 w, Below.refl _ _⟩
  have he : c.args.map ρ = #[Value.slice (some ⟨b, 0, none⟩) rs.length cap] := by
    apply Array.ext'
    simpa using e1
  show (execOp ρ oo).run Tryz.prog w = _
  simp only [execOp, hop, resolve, hc, he, Sem.run_bind, Sem.run_pure, Result.andThen_ok, invoke, builtin, hat, hty]
  simp [Sem.run_bind, run_len_slice _ _ _ _ _ _ und_rats, Result.andThen, goInt]
theorem e_ixL {n : Nat} (h1 : PV csz numc okT nt cl w0 p1 v) (hv : Lst w0 v rs) (h2 : PV csz numc okT nt cl w0 p2 (ii (n : Int))) (hn : n < rs.length) (h3 : RV csz numc okT nt cl w0 res (ptrL v n)) : V csz numc okT nt cl w0 (.ix 92) [p1, p2] res := by
  intro w ρ oo xs ho hb hvs
  obtain ⟨a, b, hop, rfl⟩ := hd_ix ho
  obtain ⟨v1, _, e1, h4, v2, _, e2, h5, e3⟩ := hvs
  obtain rfl := h1 _ _ h4
  obtain rfl := h2 _ _ h5
  subst e2
  simp only [List.map_cons, List.map_nil, List.cons.injEq] at e1
  obtain ⟨ea, eb, _⟩ := e1
  obtain ⟨k, cap, arr, fr, rfl, _⟩ := hv
  refine ⟨_, w, ?_, h3 w, Below.refl _ _⟩
  show (execOp ρ oo).run Tryz.prog w = _
  have hs : (sizeOf (Tryz.prog.elem 92)).run Tryz.prog w = .ok 3 w := by rw [elem_rats]; exact size_rat w
  simp only [execOp, hop, ea, eb, Sem.run_bind, run_indexAt_slice _ _ _ _ _ _ _ und_rats]
  rw [if_pos (by omega)]
  simp [hs, Result.andThen, Addr.add, ptrL]
  intro h
  exact h.symm
theorem e_ldL {n : Nat} (h1 : PV csz numc okT nt cl w0 p1 (ptrL v n)) (hv : Lst w0 v rs) (hr : rs[n]? = some r) (z : Siz r k) (h3 : cl[c]? = some (clR r k)) : V csz numc okT nt cl w0 (.ld 33) [p1] (.val (rq c)) := by
  intro w ρ oo xs ho hb hvs
  obtain ⟨a, hop, rfl⟩ := hd_ld ho
  obtain ⟨v1, _, e1, h4, e2⟩ := hvs
  obtain rfl := h1 _ _ h4
  subst e2
  simp only [List.map_cons, List.map_nil, List.cons.injEq] at e1
  obtain ⟨ea, _⟩ := e1
  obtain ⟨b, cap, arr, fr, rfl, hc, h5⟩ := hv.below hb (Nat.le_refl _)
  obtain ⟨x, y, u, g1, g2, g3, g4⟩ := h5 n r hr
  refine ⟨.agg #[x, y, u], w, ?_, (rq_is h3).2 ⟨g4, z⟩, Below.refl _ _⟩
  have hp : ptrL (.slice (some ⟨b, 0, none⟩) rs.length cap) n = .pointer (some ⟨b, n * 3, none⟩) := by simp [ptrL]
  rw [hp] at ea
  obtain ⟨inf, hinf, hsz⟩ := Option.map_eq_some_iff.1 info_ratT
  have hl := run_loadCells_list (P := Tryz.prog) (w := w) ⟨b, n * 3, none⟩ [x, y, u] (fun j v hj => by
    rw [addr_add]
    have hj3 : j < 3 := (List.getElem?_eq_some_iff.1 hj).1
    simp only [World.cell?, hc]
    match j, hj3 with
    | 0, _ => rw [Nat.add_zero, Nat.mul_comm, g1]; simpa using hj
    | 1, _ => rw [Nat.mul_comm, g2]; simpa using hj
    | 2, _ => rw [Nat.mul_comm, g3]; simpa using hj)
  have hl : (loadCells ⟨b, n * 3, none⟩ inf.size).run Tryz.prog w = .ok #[x, y, u] w := by rw [hsz]; exact hl
  have hlv : (loadVar 33 ⟨b, n * 3, none⟩).run Tryz.prog w = .ok (.agg #[x, y, u]) w := by
    obtain ⟨d, hd, hag⟩ : ∃ d, Tryz.prog.underlying 33 = some d ∧ isAggD d = true := ⟨_, und_ratT, by kernel_rfl⟩
    simp [loadVar, run_isAggD hd, hag, run_size hinf, hl]
  show (execOp ρ oo).run Tryz.prog w = _
  simp only [execOp, hop, ea, Instr.loadAt, Instr.sureAddr, Sem.run_bind, Sem.run_pure, Result.andThen_ok, hlv]
end
theorem und_spanT : Tryz.prog.underlying 68 = some (match Tryz.prog.underlying 68 with | some d => d | none => .bool) := by kernel_rfl
def lowR (r : Rat) (rs : List Rat) : Rat := rs.foldl minQ r
def highR (r : Rat) (rs : List Rat) : Rat := rs.foldl maxQ r
def zsp : List Grp := [.lit (.bool false), .lit (.slice none 0 0), .lit (.slice none 0 0), .lit (.bool false), .lit (.slice none 0 0), .lit (.slice none 0 0)]
def StE (w0 : World) (v : Value) (i : Nat) (lo hi : Rat) (a : Act) (w : World) : Prop := Below w0.heap.size w0 w ∧ a.defers = [] ∧ a.tmps.size = 34 ∧ ∃ b b2 x y z x' y' z', a.tmps[2]? = some (.pointer (some ⟨b2, 0, none⟩)) ∧ w0.heap.size ≤ b2 ∧ w.heap[b2]? = some (.cells #[.bool false, .slice none 0 0, .slice none 0 0, .bool false, .slice none 0 0, .slice none 0 0] 68 (0, 0)) ∧
  a.tmps[3]? = some (.pointer (some ⟨b, 0, none⟩)) ∧ w0.heap.size ≤ b ∧ b ≠ b2 ∧ w.heap[b]? = some (.cells #[x, y, z, x', y', z'] 68 (0, 0)) ∧ RQ w (.agg #[x, y, z]) lo ∧ RQ w (.agg #[x', y', z']) hi ∧ a.tmps[0]? = some v ∧ a.tmps[4]? = some (ii (i : Int))
section
variable {csz : List Nat} {numc : List Bool} {okT : List Nat} {cl : List Cl} {w0 : World} {w : World} {p0 p4 : Pat} {lo hi : Rat} {v : Value} {i : Nat} {a : Act} {c d k k' : Nat}
theorem at_ste (hc : cl[c]? = some (clR lo k)) (hd : cl[d]? = some (clR hi k')) (h : At (mkC csz numc okT 34 cl w0) [.box 2 68 zsp, .box 3 68 [.cls c 3, .cls d 3], .val 0 p0, .val 4 p4] a w) (h0 : ∀ w u, p0.is (mkC csz numc okT 34 cl w0) w u → u = v) (h4 : ∀ w v, p4.is (mkC csz numc okT 34 cl w0) w v → v = ii (i : Int)) : StE w0 v i lo hi a w := by
  obtain ⟨b2, vs2, q1, q2, _, q3, g2, b, vs, r1, r2, r3, r4, ⟨xs, ys, rfl, ⟨f, hE, rfl⟩, ⟨xs', ys', rfl, ⟨f', hE', rfl⟩, hy⟩⟩, ⟨v0, q4, q5⟩, ⟨v4, q6, q7⟩, _⟩ := h.items
  obtain ⟨_, _, rfl, rfl, _, _, rfl, rfl, _, _, rfl, rfl, _, _, rfl, rfl, _, _, rfl, rfl, _, _, rfl, rfl, rfl⟩ := g2
  rw [show ys' = [] from hy] at r4
  simp only [mkC, hc] at hE
  simp only [mkC, hd] at hE'
  rw [h0 _ _ q5] at q4
  rw [h4 _ _ q7] at q6
  exact ⟨h.below, h.defers, h.size, b, b2, f 0, f 1, f 2, f' 0, f' 1, f' 2, q1, q2, q3, r1, r2, by simpa using r3, r4, hE.1, hE'.1, q4, q6⟩
theorem ste_at (hc : cl[c]? = some (clR lo k)) (hd : cl[d]? = some (clR hi k')) (z1 : Siz lo k) (z2 : Siz hi k') (h : StE w0 v i lo hi a w) (h0 : p0.is (mkC csz numc okT 34 cl w0) w v) (h4 : p4.is (mkC csz numc okT 34 cl w0) w (ii (i : Int))) : At (mkC csz numc okT 34 cl w0) [.box 2 68 zsp, .box 3 68 [.cls c 3, .cls d 3], .val 0 p0, .val 4 p4] a w := by
  obtain ⟨g1, g2, g3, b, b2, x, y, z, x', y', z', q1, q2, q3, r1, r2, r3, r4, r5, r6, q4, q5⟩ := h
  refine ⟨g1, g2, g3, b2, [.bool false, .slice none 0 0, .slice none 0 0, .bool false, .slice none 0 0, .slice none 0 0], q1, q2, by simp, q3, ⟨_, _, rfl, rfl, _, _, rfl, rfl, _, _, rfl, rfl, _, _, rfl, rfl, _, _, rfl, rfl, _, _, rfl, rfl, rfl⟩, b, [x, y, z, x', y', z'], r1, r2, by simpa using r3, r4, ⟨[x, y, z], [x', y', z'], rfl, ⟨fun j => [x, y, z].getD j undef, ?_, rfl⟩, ⟨[x', y', z'], [], rfl, ⟨fun j => [x', y', z'].getD j undef, ?_, rfl⟩, rfl⟩⟩, ⟨_, q4, h0⟩, ⟨_, q5, h4⟩, trivial⟩
  · simp only [mkC, hc]; exact ⟨r5, z1⟩
  · simp only [mkC, hd]; exact ⟨r6, z2⟩
end
theorem spanT : ∀ t ∈ [68], t ≠ 3 := by decide
abbrev cl_ends (v : Value) (rs : List Rat) (i k : Nat) (lo hi e : Rat) : List Cl := [clW v, clV (ii (i : Int)), clV (ii (rs.length : Int)), clR lo k, clR hi k, clW (ptrL v i), clR e k, clR (minQ lo e) k, clR (maxQ hi e) k, clV (ii ((i + 1 : Nat) : Int))]
noncomputable abbrev C_ends (v : Value) (rs : List Rat) (i k : Nat) (lo hi e : Rat) (w : World) : Ctx := mkC [1, 1, 1, 3, 3, 1, 3, 3, 3, 1] [false, true, true, true, true, false, true, true, true, true] [68] 34 (cl_ends v rs i k lo hi e) w
theorem ends_C {v : Value} (hv : v.oneCell' = true) (rs : List Rat) (i k : Nat) (lo hi e : Rat) (w : World) : (C_ends v rs i k lo hi e w).Ok := mkC_ok (oks_cons (clW_ok hv) (oks_cons (clVi_ok _) (oks_cons (clVi_ok _) (oks_cons (clR_ok spanT _ _) (oks_cons (clR_ok spanT _ _) (oks_cons (clW_ok (ptrL_one _ _)) (oks_cons (clR_ok spanT _ _) (oks_cons (clR_ok spanT _ _) (oks_cons (clR_ok spanT _ _) (oks_cons (clVi_ok _) oks_nil)))))))))) rfl rfl
def t_ends0 : List Ent := [⟨.ix 92, [op 0, vp (ii 0)], .val (op 5)⟩, ⟨.ld 33, [op 5], .val (rq 6)⟩]
def t_endsA (b : Bool) : List Ent := [⟨.blt .len [92] 3, [op 0], .val (op 2)⟩, ⟨.bin .lss 3, [op 1, op 2], .val (vp (.bool b))⟩]
def t_endsB : List Ent := [⟨.ix 92, [op 0, op 1], .val (op 5)⟩, ⟨.ld 33, [op 5], .val (rq 6)⟩, ⟨.call 106, [rq 3, rq 6], .val (rq 7)⟩, ⟨.call 107, [rq 4, rq 6], .val (rq 8)⟩, ⟨.bin .add 3, [op 1, vp (ii 1)], .val (op 9)⟩]
noncomputable def b_ends : Code := bodyOf Tryz.f104
noncomputable def l_ends : Code := inner (inner (seqR (seqL (seqR (seqR b_ends)))))
theorem ends_ok (v : Value) (r : Rat) (rs : List Rat) (k : Nat) (w : World) (hv : Lst w v (r :: rs)) (hz : ∀ x ∈ r :: rs, Siz x k) (hk : k ≤ 5000) (hl : rs.length < 1000000) : Calls Tryz.prog 104 #[v] w (fun e w' => ∃ u, e = .returned u ∧ RSp w' u (lowR r rs) (highR r rs) ∧ Below w.heap.size w w') := by
  have h9 := hv.one
  have zr := hz r (by simp)
  have hfk : fitr k k = true := fitr_mk (Nat.le_refl _) (by omega)
  have hf5 : fitr k 5000 = true := fitr_mk hk (by decide)
  have hT0 : ∀ lo hi, ∀ t ∈ t_ends0, t.Valid (C_ends v (r :: rs) 0 k lo hi r w) := fun lo hi => forall_cons (e_ixL (n := 0) (pvW rfl) hv pvl (by simp) (rvW rfl)) (forall_cons (e_ldL (n := 0) (pvW rfl) hv rfl zr rfl) forall_nil)
  refine calls_at (C := C_ends v (r :: rs) 0 k r r r w) (f := 104) (args := [op 0]) Tryz.func104 (c := .seq (seqL b_ends) (.seq (seqL (seqR b_ends)) (.seq (.seq (seqL (seqL (seqR (seqR b_ends)))) (.block 0 (.loop l_ends))) (seqR (seqR (seqR b_ends)))))) rfl rfl (Nat.le_of_ble_eq_true rfl) (vs := [v]) ⟨_, _, rfl, (op_isW rfl).2 rfl, rfl⟩ (fun a hA => ?_)
  refine wp_seq (seg_is (ends_C h9 _ _ _ _ _ _ _) (T := []) forall_nil (x := .normal) (n := 30) (post := [.box 2 68 zsp, .val 0 (op 0)]) (by kernel_rfl) hA (fun a1 w1 hA => ?_))
  refine wp_seq (seg_is (ends_C h9 _ _ _ _ _ _ _) (hT0 r r) (x := .normal) (n := 30) (post := [.box 2 68 zsp, .box 3 68 [.cls 6 3, .cls 6 3], .val 0 (op 0)]) (by kernel_rfl) hA (fun a2 w2 hA => ?_))
  refine wp_seq (wp_seq (seg_is (ends_C h9 _ _ _ _ _ _ _) (T := []) forall_nil (x := .normal) (n := 30) (post := [.box 2 68 zsp, .box 3 68 [.cls 6 3, .cls 6 3], .val 0 (op 0), .val 4 (vp (ii 1))]) (by kernel_rfl) hA (fun a3 w3 hA => ?_)))
  have hS := at_ste (i := 1) rfl rfl hA (fun w u hu => (op_isW rfl).1 hu) (fun w u hu => vp_is.1 hu)
  refine while_is (Θ := Nat) (fun i a w1 => i ≤ rs.length ∧ StE w v (i + 1) (lowR r (rs.take i)) (highR r (rs.take i)) a w1) (fun i => rs.length - i) ?_ 0 ⟨Nat.zero_le _, hS⟩
  rintro i a w1 ⟨hi, hS⟩
  have zl : ∀ i, Siz (lowR r (rs.take i)) k ∧ Siz (highR r (rs.take i)) k := by
    have key : ∀ (l : List Rat) (x y : Rat), (∀ u ∈ l, Siz u k) → Siz x k → Siz y k → Siz (lowR x l) k ∧ Siz (highR y l) k := by
      intro l
      induction l with
      | nil => exact fun x y _ h1 h2 => ⟨h1, h2⟩
      | cons u l ih => exact fun x y h h1 h2 => ih (minQ x u) (maxQ y u) (fun t ht => h t (by simp [ht])) (minQ_siz h1 (h u (by simp))) (maxQ_siz h2 (h u (by simp)))
    exact fun i => key (rs.take i) r r (fun u hu => hz u (by simp [List.mem_of_mem_take hu])) zr zr
  by_cases hend : i < rs.length
  · have he : (r :: rs)[i + 1]? = some rs[i] := by simp [hend]
    have hA := ste_at (csz := [1, 1, 1, 3, 3, 1, 3, 3, 3, 1]) (numc := [false, true, true, true, true, false, true, true, true, true]) (okT := [68]) (cl := cl_ends v (r :: rs) (i + 1) k (lowR r (rs.take i)) (highR r (rs.take i)) rs[i]) (c := 3) (d := 4) (p0 := op 0) (p4 := op 1) rfl rfl (zl i).1 (zl i).2 hS ((op_isW rfl).2 rfl) ((op_is rfl).2 rfl)
    have hT : ∀ t ∈ t_endsA true ++ t_endsB, t.Valid (C_ends v (r :: rs) (i + 1) k (lowR r (rs.take i)) (highR r (rs.take i)) rs[i] w) :=
      t_app (forall_cons (e_lenL (pvW rfl) hv (rv rfl)) (forall_cons (e_lss (pv rfl) (pv rfl) (decide_eq_true (by simp; omega))) forall_nil))
        (forall_cons (e_ixL (n := i + 1) (pvW rfl) hv (pv rfl) (by simp; omega) (rvW rfl)) (forall_cons (e_ldL (n := i + 1) (pvW rfl) hv he (hz _ (by simp)) rfl) (forall_cons (e_rminm (pr rfl) (pr rfl) rfl hfk hfk hf5) (forall_cons (e_rmaxm (pr rfl) (pr rfl) rfl hfk hfk hf5) (forall_cons (e_add (by omega) (pv rfl) pvl (rv rfl) (by omega)) forall_nil)))))
    refine seg_is (ends_C h9 _ _ _ _ _ _ _) hT (x := .normal) (n := 30) (post := [.box 2 68 zsp, .box 3 68 [.cls 7 3, .cls 8 3], .val 0 (op 0), .val 4 (op 9)]) (by kernel_rfl) hA (fun a2 w2 hA => ⟨i + 1, ⟨hend, ?_⟩, by show rs.length - (i + 1) < rs.length - i; omega⟩)
    have hS := at_ste (i := i + 1 + 1) rfl rfl hA (fun w u hu => (op_isW rfl).1 hu) (fun w u hu => (op_is rfl).1 hu)
    have e1 : lowR r (rs.take (i + 1)) = minQ (lowR r (rs.take i)) rs[i] := by
      unfold lowR
      rw [List.take_add_one, List.getElem?_eq_getElem hend, List.foldl_append]
      rfl
    have e2 : highR r (rs.take (i + 1)) = maxQ (highR r (rs.take i)) rs[i] := by
      unfold highR
      rw [List.take_add_one, List.getElem?_eq_getElem hend, List.foldl_append]
      rfl
    rw [e1, e2]
    exact hS
  · have hT : ∀ t ∈ t_endsA false, t.Valid (C_ends v (r :: rs) (i + 1) k (lowR r (rs.take i)) (highR r (rs.take i)) 0 w) :=
      forall_cons (e_lenL (pvW rfl) hv (rv rfl)) (forall_cons (e_lss (pv rfl) (pv rfl) (decide_eq_false (by simp; omega))) forall_nil)
    have hA := ste_at (csz := [1, 1, 1, 3, 3, 1, 3, 3, 3, 1]) (numc := [false, true, true, true, true, false, true, true, true, true]) (okT := [68]) (cl := cl_ends v (r :: rs) (i + 1) k (lowR r (rs.take i)) (highR r (rs.take i)) 0) (c := 3) (d := 4) (p0 := op 0) (p4 := op 1) rfl rfl (zl i).1 (zl i).2 hS ((op_isW rfl).2 rfl) ((op_is rfl).2 rfl)
    refine wp_seq (seg_is (ends_C h9 _ _ _ _ _ _ _) hT (x := .exit 0) (n := 30) (post := [.box 2 68 zsp, .box 3 68 [.cls 3 3, .cls 4 3]]) (by kernel_rfl) hA (fun a2 w2 hA => ?_))
    show (seqR (seqR (seqR b_ends))).wp Tryz.prog _ a2 w2
    refine seg_is (ends_C h9 _ _ _ _ _ _ _) (T := []) forall_nil (x := .ret) (n := 30) (post := [.box 2 68 [.cls 3 3, .cls 4 3]]) (by kernel_rfl) hA (fun a3 w3 hA => ?_)
    obtain ⟨bk, vs, q1, _, _, q3, q4, _⟩ := hA.items
    have hrs := (rsp_is (c := 3) (d := 4) (cl := cl_ends v (r :: rs) (i + 1) k (lowR r (rs.take i)) (highR r (rs.take i)) 0) rfl rfl).1 ⟨vs, q4, rfl⟩
    have hvs : vs.length = 6 := by
      obtain ⟨xs, ys, rfl, ⟨f, _, rfl⟩, ⟨xs', ys', rfl, ⟨f', _, rfl⟩, hy⟩⟩ := q4
      rw [show ys' = [] from hy]
      rfl
    have hi2 : i = rs.length := by omega
    rw [hi2, List.take_length] at hrs
    refine ⟨hA.defers, .agg vs.toArray, ?_, ⟨_, rfl, hrs.1, hA.below⟩⟩
    have hlv : (loadVar 68 ⟨bk, 0, none⟩).run Tryz.prog w3 = .ok (.agg vs.toArray) w3 := by
      obtain ⟨inf, hinf, hsz⟩ := Option.map_eq_some_iff.1 (show (Tryz.prog.info? 68).map (fun i => i.size) = some 6 by kernel_rfl)
      have hl := run_loadCells_list (P := Tryz.prog) (w := w3) ⟨bk, 0, none⟩ vs (fun j v hj => by rw [addr_add, Nat.zero_add]; simpa [World.cell?, q3] using hj)
      rw [hvs, ← hsz] at hl
      obtain ⟨d, hd, hag⟩ : ∃ d, Tryz.prog.underlying 68 = some d ∧ isAggD d = true := ⟨_, und_spanT, by kernel_rfl⟩
      simp [loadVar, run_isAggD hd, hag, run_size hinf, hl]
    rw [results_eq, show Tryz.f104.results = #[.cell 2 68] from rfl]
    have e1 : a3.tmps.getD 2 undef = .pointer (some ⟨bk, 0, none⟩) := by rw [Array.getD_eq_getD_getElem?, q1]; rfl
    simp [resF, e1, asAddr]
    exact hlv
end Sym
open Go Go.RowKit Go.Proofs Lim
namespace Sym
def clL (rs : List Rat) (k : Nat) : Cl := ⟨1, false, fun w f => Lst w (f 0) rs ∧ ∀ r ∈ rs, Siz r k⟩
theorem RQ.only {w w' : World} {R : Nat} {cs : Array Value} {t : TypeId} {v : Value} {r : Rat} (ho : w.heap[R]? = some (.cells cs t (0, 0))) (ht : t ≠ 3) (hb : Only R w w') (h : RQ w v r) : RQ w' v r := by
  obtain ⟨a, b, e, h1, h2⟩ := h
  exact ⟨a, b, e, Dg.only ho ht h1 hb, Dg.only ho ht h2 hb⟩
theorem Lst.only {w w' : World} {R : Nat} {cs : Array Value} {t : TypeId} {v : Value} {rs : List Rat} (ho : w.heap[R]? = some (.cells cs t (0, 0))) (ht : t ≠ 3) (ht' : 2 ≤ rs.length) (hf : boxFull Tryz.prog t cs.size = true) (hb : Only R w w') (h : Lst w v rs) : Lst w' v rs := by
  obtain ⟨b, cap, arr, fr, hv, hc, h1⟩ := h
  have hne : b ≠ R := by
    rintro rfl
    rw [ho] at hc
    injection hc with hc
    injection hc with hcs hc
    subst hcs hc
    obtain ⟨x, y, z, _, _, e3, _⟩ := h1 1 _ (List.getElem?_eq_getElem (by omega))
    have h5 := (Array.getElem?_eq_some_iff.1 e3).1
    have hi : (Tryz.prog.info? 33).map (fun i => i.size) = some 3 := by kernel_rfl
    obtain ⟨i, hi, hi2⟩ := Option.map_eq_some_iff.1 hi
    simp only [boxFull, hi, hi2] at hf
    have := Nat.eq_of_beq_eq_true hf
    omega
  refine ⟨b, cap, arr, fr, hv, (hb.block b hne).trans hc, fun i r hi => ?_⟩
  obtain ⟨x, y, z, e1, e2, e3, h2⟩ := h1 i r hi
  exact ⟨x, y, z, e1, e2, e3, h2.only ho ht hb⟩
theorem clL_ok {okT : List Nat} {B : Nat} (ht : ∀ t ∈ okT, t ≠ 3) (rs : List Rat) (k : Nat) (hl : Nat.ble 2 rs.length = true) : (clL rs k).Ok okT B := by
  refine ⟨fun w w' f hb h => ⟨h.1.below hb (Nat.le_refl _), h.2⟩, fun w w' R f cs t _ ho hm _ hf hb h => ⟨h.1.only ho (ht t hm) (Nat.le_of_ble_eq_true hl) hf hb, h.2⟩, fun _ _ h _ => absurd h (by simp [clL]), ?_⟩
  intro w f j h hj
  have hj : j < 1 := hj
  obtain rfl : j = 0 := by omega
  exact h.1.one
def NumsAre (cl : List Cl) : List Grp → List Rat → Nat → Prop
  | [], rs, _ => rs = []
  | g :: gs, rs, k => ∃ c r rs' k1, g = .cls c 3 ∧ rs = r :: rs' ∧ cl[c]? = some (clR r k1) ∧ k1 ≤ k ∧ NumsAre cl gs rs' k
section
variable {csz : List Nat} {numc : List Bool} {okT : List Nat} {nt : Nat} {cl : List Cl} {w0 : World} {w : World} {v z : Value} {p1 p2 p3 p4 : Pat} {res : RPat} {c d c1 c2 c3 c4 c5 c6 : Nat} {r s t r1 r2 r3 r4 : Rat} {k k1 k2 k3 k4 k5 k6 : Nat} {rs : List Rat}
theorem nums_cells : ∀ {gs : List Grp} {rs : List Rat} {vs : List Value}, NumsAre cl gs rs k → GrpsAre (mkC csz numc okT nt cl w0) w gs vs → vs.length = 3 * rs.length ∧ ∀ i r, rs[i]? = some r → Siz r k ∧ ∃ x y z, vs[3 * i]? = some x ∧ vs[3 * i + 1]? = some y ∧ vs[3 * i + 2]? = some z ∧ RQ w (.agg #[x, y, z]) r
  | [], rs, vs, h, hg => by
    rw [show rs = [] from h, show vs = [] from hg]
    exact ⟨rfl, fun i r hi => by simp at hi⟩
  | g :: gs, rs, vs, ⟨c, r, rs', k1, e1, e2, hc, hk, h⟩, ⟨xs, ys, e3, hx, hy⟩ => by
    subst e1 e2 e3
    obtain ⟨f, hE, rfl⟩ := hx
    simp only [mkC, hc] at hE
    obtain ⟨q1, q2⟩ := nums_cells h hy
    refine ⟨by simp [q1]; omega, fun i u hi => ?_⟩
    cases i with
    | zero =>
      have : u = r := by simpa using hi.symm
      subst this
      exact ⟨hE.2.le hk, f 0, f 1, f 2, rfl, rfl, rfl, hE.1⟩
    | succ i =>
      obtain ⟨g1, x, y, z, g2, g3, g4, g5⟩ := q2 i u (by simpa using hi)
      refine ⟨g1, x, y, z, ?_, ?_, ?_, g5⟩
      · rw [show 3 * (i + 1) = 3 + 3 * i by omega, List.getElem?_append_right (by simp)]; simpa using g2
      · rw [show 3 * (i + 1) + 1 = 3 + (3 * i + 1) by omega, List.getElem?_append_right (by simp)]; simpa using g3
      · rw [show 3 * (i + 1) + 2 = 3 + (3 * i + 2) by omega, List.getElem?_append_right (by simp)]; simpa using g4
def PL (csz : List Nat) (numc : List Bool) (okT : List Nat) (nt : Nat) (cl : List Cl) (w0 : World) (p : Pat) (rs : List Rat) (k : Nat) : Prop := ∀ w v, p.is (mkC csz numc okT nt cl w0) w v → Lst w v rs ∧ ∀ r ∈ rs, Siz r k
theorem plS {gs : List Grp} {n : Nat} (h : NumsAre cl gs rs k) (hn : n = rs.length) : PL csz numc okT nt cl w0 (.slc 33 n gs) rs k := by
  rintro w v ⟨b, vs, rfl, hb, hg⟩
  obtain ⟨q1, q2⟩ := nums_cells h hg
  subst hn
  refine ⟨⟨b, _, vs.toArray, _, rfl, hb, fun i r hi => ?_⟩, fun r hr => ?_⟩
  · obtain ⟨_, x, y, z, g2, g3, g4, g5⟩ := q2 i r hi
    exact ⟨x, y, z, by simpa using g2, by simpa using g3, by simpa using g4, g5⟩
  · obtain ⟨i, hi⟩ := List.mem_iff_getElem?.1 hr
    exact (q2 i r hi).1
theorem op_isL (h : cl[c]? = some (clL rs k)) : (op c).is (mkC csz numc okT nt cl w0) w v ↔ Lst w v rs ∧ ∀ r ∈ rs, Siz r k := by
  constructor
  · rintro ⟨f, hE, hv⟩
    simp only [mkC, h] at hE
    have : v = f 0 := by simpa [List.range_succ] using hv
    rw [this]; exact hE
  · intro hv
    refine ⟨fun _ => v, ?_, rfl⟩
    simp only [mkC, h]
    exact hv
theorem plC (h : cl[c]? = some (clL rs k)) : PL csz numc okT nt cl w0 (op c) rs k := fun _ _ hp => (op_isL h).1 hp
theorem ends_siz {r : Rat} {rs : List Rat} (h : ∀ x ∈ r :: rs, Siz x k) : Siz (lowR r rs) k ∧ Siz (highR r rs) k := by
  have key : ∀ (l : List Rat) (x y : Rat), (∀ u ∈ l, Siz u k) → Siz x k → Siz y k → Siz (lowR x l) k ∧ Siz (highR y l) k := by
    intro l
    induction l with
    | nil => exact fun x y _ h1 h2 => ⟨h1, h2⟩
    | cons u l ih => exact fun x y h h1 h2 => ih (minQ x u) (maxQ y u) (fun t ht => h t (by simp [ht])) (minQ_siz h1 (h u (by simp))) (maxQ_siz h2 (h u (by simp)))
  exact key rs r r (fun u hu => h u (by simp [hu])) (h r (by simp)) (h r (by simp))
theorem e_ends (h1 : PL csz numc okT nt cl w0 p1 (r :: rs) k) (hl : Nat.ble rs.length 100000 = true) (h5 : cl[c5]? = some (clR (lowR r rs) k5)) (h6 : cl[c6]? = some (clR (highR r rs) k6)) (hk5 : fitr k k5 = true) (hk6 : fitr k k6 = true) (hk' : fitr k 5000 = true) : V csz numc okT nt cl w0 (.call 104) [p1] (.val (rsp c5 c6)) := by
  refine ⟨enters_of Tryz.func104 (by kernel_rfl) rfl, fun w vs hb hvs => ?_⟩
  obtain ⟨v1, _, rfl, h4, rfl⟩ := hvs
  obtain ⟨g1, g2⟩ := h1 _ _ h4
  have hl := Nat.le_of_ble_eq_true hl
  refine (ends_ok v1 r rs k w g1 g2 (fitr_le hk').1 (by omega)).mono ?_
  rintro e w' ⟨u, rfl, hu, hb'⟩
  exact ⟨_, rfl, (rsp_is h5 h6).2 ⟨hu, (ends_siz g2).1.le (fitr_le hk5).1, (ends_siz g2).2.le (fitr_le hk6).1⟩, hb'⟩
theorem e_app {gs : List Grp} {n : Nat} (h1 : NumsAre cl gs rs k) (hn : n = rs.length) (hnl : Nat.ble n 1000 = true) (h2 : cl[c1]? = some (clR r k1)) (hk : k1 ≤ k) (h3 : cl[c2]? = some (clL (rs ++ [r]) k)) : V csz numc okT nt cl w0 (.blt .append [92, 92] 92) [.slc 33 n gs, .slc 33 1 [.cls c1 3]] (.val (op c2)) := by
  intro w ρ oo xs ho hb hvs
  obtain ⟨c, hop, hc, hat, hty, rfl⟩ := hd_blt ho
  obtain ⟨v1, _, e1, ⟨b, vs, rfl, hvb, hg⟩, v2, _, e2, ⟨b', us, rfl, hub, hg'⟩, e3⟩ := hvs
  subst e2
  subst e3
  subst hn
  have hnl := Nat.le_of_ble_eq_true hnl
  obtain ⟨q1, q2⟩ := nums_cells h1 hg
  obtain ⟨q3, q4⟩ := nums_cells (rs := [r]) (k := k) (gs := [.cls c1 3]) ⟨c1, r, [], k1, rfl, rfl, h2, hk, rfl⟩ hg'
  obtain ⟨inf, hinf, hz, hsz, hby⟩ : ∃ inf, Tryz.prog.info? 33 = some inf ∧ inf.zero = some (.agg #[.bool false, .slice none 0 0, .slice none 0 0]) ∧ inf.size = 3 ∧ inf.bytes = 56 := by
    have h : (Tryz.prog.info? 33).map (fun i => (i.zero, i.size, i.bytes)) = some (some (.agg #[.bool false, .slice none 0 0, .slice none 0 0]), 3, 56) := by kernel_rfl
    obtain ⟨i, h1, h2⟩ := Option.map_eq_some_iff.1 h
    simp only [Prod.mk.injEq] at h2
    exact ⟨i, h1, h2.1, h2.2.1, h2.2.2⟩
  have hu : Tryz.prog.underlying 92 = some (.slice 33) := by kernel_rfl
  have hr := run_append_grow (P := Tryz.prog) w 92 92 33 inf (.agg #[.bool false, .slice none 0 0, .slice none 0 0]) hu hinf hz ⟨b, 0, none⟩ rs.length rs.length vs (by rw [hsz, q1, Nat.mul_comm]) (fun j u hj => by rw [addr_add]; simpa [World.cell?, hvb] using hj) ⟨b', 0, none⟩ 1 1 us (by rw [hsz, q3]; rfl) (fun j u hj => by rw [addr_add]; simpa [World.cell?, hub] using hj) (by omega) (by omega) (growslice_fits (by omega) (by rw [hby]; omega))
  have hrun : (execOp ρ oo).run Tryz.prog w = .ok (.value (.slice (some ⟨w.heap.size, 0, none⟩) (rs.length + 1) (grownCap w (rs.length + 1) rs.length 33))) (w.drew.alloc (.cells (vs.toArray ++ us.toArray ++ Builtin.zeroCells (Value.cells (.agg #[.bool false, .slice none 0 0, .slice none 0 0])) (grownCap w (rs.length + 1) rs.length 33 - (rs.length + 1))) 33)) := by
    have he : c.args.map ρ = #[Value.slice (some ⟨b, 0, none⟩) rs.length rs.length, .slice (some ⟨b', 0, none⟩) 1 1] := by
      apply Array.ext'
      simpa using e1
    simp only [execOp, hop, resolve, hc, he, Sem.run_bind, Sem.run_pure, Result.andThen_ok, invoke, builtin, hat, hty, hr]
  refine ⟨_, _, hrun, (op_isL h3).2 ⟨⟨w.heap.size, _, _, _, by rw [List.length_append]; rfl, heap_alloc_new w.drew _, fun i u hi => ?_⟩, fun u hu => ?_⟩, ?_⟩
  · have key : ∀ x ∈ [3 * i, 3 * i + 1, 3 * i + 2], x < 3 * (rs.length + 1) → (vs.toArray ++ us.toArray ++ Builtin.zeroCells (Value.cells (.agg #[.bool false, .slice none 0 0, .slice none 0 0])) (grownCap w (rs.length + 1) rs.length 33 - (rs.length + 1)))[x]? = (vs ++ us)[x]? := by
      intro x _ hx
      rw [Array.getElem?_append_left (by simp [q1, q3]; omega)]
      simp
    have hil : i < rs.length + 1 := by
      have := (List.getElem?_eq_some_iff.1 hi).1
      simpa using this
    rw [key _ (by simp) (by omega), key _ (by simp) (by omega), key _ (by simp) (by omega)]
    rcases Nat.lt_or_ge i rs.length with h | h
    · rw [List.getElem?_append_left h] at hi
      obtain ⟨_, x, y, z, g2, g3, g4, g5⟩ := q2 i u hi
      refine ⟨x, y, z, ?_, ?_, ?_, g5.below ?_ (Nat.le_refl _)⟩
      · rw [List.getElem?_append_left (by omega)]; exact g2
      · rw [List.getElem?_append_left (by omega)]; exact g3
      · rw [List.getElem?_append_left (by omega)]; exact g4
      · exact (Below.refl _ w).drew.alloc (Nat.le_refl _) _
    · obtain rfl : i = rs.length := by omega
      rw [List.getElem?_append_right (Nat.le_refl _), Nat.sub_self] at hi
      obtain ⟨_, x, y, z, g2, g3, g4, g5⟩ := q4 0 u hi
      refine ⟨x, y, z, ?_, ?_, ?_, g5.below ?_ (Nat.le_refl _)⟩
      · rw [List.getElem?_append_right (by omega), show 3 * rs.length - vs.length = 0 by omega]; exact g2
      · rw [List.getElem?_append_right (by omega), show 3 * rs.length + 1 - vs.length = 1 by omega]; exact g3
      · rw [List.getElem?_append_right (by omega), show 3 * rs.length + 2 - vs.length = 2 by omega]; exact g4
      · exact (Below.refl _ w).drew.alloc (Nat.le_refl _) _
  · rcases List.mem_append.1 hu with h | h
    · obtain ⟨i, hi⟩ := List.mem_iff_getElem?.1 h
      exact (q2 i u hi).1
    · have : u = r := by simpa using h
      subst this
      exact (q4 0 u rfl).1
  · exact (Below.refl _ w).drew.alloc (Nat.le_refl _) _
end
end Sym
open Go Go.RowKit Go.Proofs Lim
namespace Sym
def hasR (lo hi x : Rat) : Bool := decide (lo ≤ x) && decide (x ≤ hi)
theorem cmp_le_iff {r s : Rat} : cmpQ r s ≤ 0 ↔ r ≤ s := by
  rcases cmpQ_cases r s with ⟨h, g⟩ | ⟨h, g⟩ | ⟨h, g⟩ <;> rw [h] <;> grind
theorem cmp_has {lo hi x : Rat} {i j : Int} (h1 : cmpQ lo x = i) (h2 : cmpQ x hi = j) : hasR lo hi x = (decide (i ≤ 0) && decide (j ≤ 0)) := by
  subst h1 h2
  unfold hasR
  congr 1 <;> (congr 1; exact propext cmp_le_iff.symm)
noncomputable def cl_rbetween_1 (a : Rat) (b : Rat) : List Cl := [
  clR a 400,
  clR b 400,
  clR (minQ a b) 400,
  clR (maxQ a b) 400]
def t_rbetween_1 : List Ent := [
  ⟨.call 106, [rq 0, rq 1], (.val (rq 2))⟩,
  ⟨.call 107, [rq 0, rq 1], (.val (rq 3))⟩]
set_option maxRecDepth 100000 in
theorem rbetween_ok (v0 : Value) (v1 : Value) (a b : Rat) (w : World) (q0 : RQ w v0 a) (q1 : RQ w v1 b) (za : Siz a 400) (zb : Siz b 400)  :
    Calls Tryz.prog 101 #[v0, v1] w (fun en w' => ∃ v, en = .returned v ∧ RSp w' v (minQ a b) (maxQ a b) ∧ Siz (minQ a b) 400 ∧ Siz (maxQ a b) 400 ∧ Below w.heap.size w w') := by
  have hC : (mkC [3, 3, 3, 3] [true, true, true, true] [33, 68] 12 (cl_rbetween_1 a b) w).Ok := mkC_ok (oks_cons (clR_ok (by decide) _ _) <| oks_cons (clR_ok (by decide) _ _) <| oks_cons (clR_ok (by decide) _ _) <| oks_cons (clR_ok (by decide) _ _) <| oks_nil) rfl rfl
  have hT : ∀ t ∈ t_rbetween_1, t.Valid (mkC [3, 3, 3, 3] [true, true, true, true] [33, 68] 12 (cl_rbetween_1 a b) w) :=
    forall_cons (e_rminm (pr rfl) (pr rfl) rfl rfl rfl rfl) <|
    forall_cons (e_rmaxm (pr rfl) (pr rfl) rfl rfl rfl rfl) <|
    forall_nil
  refine Calls.mono (run_mk hC hT 101 Tryz.f101 [rq 0, rq 1] (.val (rsp 2 3)) 200 Tryz.func101 rfl rfl rfl (by kernel_rfl) [v0, v1] ⟨v0, _, rfl, (rq_is rfl).2 ⟨q0, za⟩, ⟨v1, _, rfl, (rq_is rfl).2 ⟨q1, zb⟩, rfl⟩⟩) ?_
  rintro e w' ⟨v, rfl, hv, hb⟩; obtain ⟨h1, h2, h3⟩ := (rsp_is rfl rfl).1 hv; exact ⟨v, rfl, h1, h2, h3, hb⟩
theorem e_rbetween {csz : List Nat} {numc : List Bool} {okT : List Nat} {nt : Nat} {cl : List Cl} {w0 : World} {p1 p2 : Pat} {c1 c2 k1 k2 : Nat} {a b : Rat}  (h1 : PR csz numc okT nt cl w0 p1 a k1) (h2 : PR csz numc okT nt cl w0 p2 b k2) (fk1 : fitr k1 400 = true) (fk2 : fitr k2 400 = true)  (g1 : cl[c1]? = some (clR (minQ a b) 400)) (g2 : cl[c2]? = some (clR (maxQ a b) 400)) : V csz numc okT nt cl w0 (.call 101) [p1, p2] (.val (rsp c1 c2)) := by
  refine ⟨enters_of Tryz.func101 (by kernel_rfl) rfl, fun w vs hb hvs => ?_⟩
  obtain ⟨u1, _, rfl, j1, ⟨u2, _, rfl, j2, rfl⟩⟩ := hvs
  have i1 := h1 _ _ j1
  have i2 := h2 _ _ j2
  refine (rbetween_ok u1 u2 _ _ w i1.1 i2.1 (i1.2.le (fitr_le fk1).1) (i2.2.le (fitr_le fk2).1) ).mono ?_
  rintro e w' ⟨v, rfl, q1, q2, q3, hb'⟩
  exact ⟨v, rfl, (rsp_is g1 g2).2 ⟨q1, q2, q3⟩, hb'⟩
noncomputable def cl_rplussp_1 (a : Rat) (b : Rat) (c : Rat) (d : Rat) : List Cl := [
  clR a 400,
  clR b 400,
  clR c 400,
  clR d 400,
  clR (a + c) 801,
  clR (b + d) 801]
def t_rplussp_1 : List Ent := [
  ⟨.call 26, [rq 0, rq 2], (.val (rq 4))⟩,
  ⟨.call 26, [rq 1, rq 3], (.val (rq 5))⟩]
set_option maxRecDepth 100000 in
theorem rplussp_ok (v0 : Value) (v1 : Value) (a b c d : Rat) (w : World) (q0 : RSp w v0 a b) (q1 : RSp w v1 c d) (za : Siz a 400) (zb : Siz b 400) (zc : Siz c 400) (zd : Siz d 400)  :
    Calls Tryz.prog 48 #[v0, v1] w (fun en w' => ∃ v, en = .returned v ∧ RSp w' v (a + c) (b + d) ∧ Siz (a + c) 801 ∧ Siz (b + d) 801 ∧ Below w.heap.size w w') := by
  have hC : (mkC [3, 3, 3, 3, 3, 3] [true, true, true, true, true, true] [33, 68] 16 (cl_rplussp_1 a b c d) w).Ok := mkC_ok (oks_cons (clR_ok (by decide) _ _) <| oks_cons (clR_ok (by decide) _ _) <| oks_cons (clR_ok (by decide) _ _) <| oks_cons (clR_ok (by decide) _ _) <| oks_cons (clR_ok (by decide) _ _) <| oks_cons (clR_ok (by decide) _ _) <| oks_nil) rfl rfl
  have hT : ∀ t ∈ t_rplussp_1, t.Valid (mkC [3, 3, 3, 3, 3, 3] [true, true, true, true, true, true] [33, 68] 16 (cl_rplussp_1 a b c d) w) :=
    forall_cons (e_radd (pr rfl) (pr rfl) rfl rfl) <|
    forall_cons (e_radd (pr rfl) (pr rfl) rfl rfl) <|
    forall_nil
  refine Calls.mono (run_mk hC hT 48 Tryz.f48 [rsp 0 1, rsp 2 3] (.val (rsp 4 5)) 200 Tryz.func48 rfl rfl rfl (by kernel_rfl) [v0, v1] ⟨v0, _, rfl, (rsp_is rfl rfl).2 ⟨q0, za, zb⟩, ⟨v1, _, rfl, (rsp_is rfl rfl).2 ⟨q1, zc, zd⟩, rfl⟩⟩) ?_
  rintro e w' ⟨v, rfl, hv, hb⟩; obtain ⟨h1, h2, h3⟩ := (rsp_is rfl rfl).1 hv; exact ⟨v, rfl, h1, h2, h3, hb⟩
theorem e_rplussp {csz : List Nat} {numc : List Bool} {okT : List Nat} {nt : Nat} {cl : List Cl} {w0 : World} {p1 p2 : Pat} {c1 c2 k1 k2 k3 k4 : Nat} {a b c d : Rat}  (h1 : PRS csz numc okT nt cl w0 p1 a k1 b k2) (h2 : PRS csz numc okT nt cl w0 p2 c k3 d k4) (fk1 : fitr k1 400 = true) (fk2 : fitr k2 400 = true) (fk3 : fitr k3 400 = true) (fk4 : fitr k4 400 = true)  (g1 : cl[c1]? = some (clR (a + c) 801)) (g2 : cl[c2]? = some (clR (b + d) 801)) : V csz numc okT nt cl w0 (.call 48) [p1, p2] (.val (rsp c1 c2)) := by
  refine ⟨enters_of Tryz.func48 (by kernel_rfl) rfl, fun w vs hb hvs => ?_⟩
  obtain ⟨u1, _, rfl, j1, ⟨u2, _, rfl, j2, rfl⟩⟩ := hvs
  have i1 := h1 _ _ j1
  have i2 := h2 _ _ j2
  refine (rplussp_ok u1 u2 _ _ _ _ w i1.1 i2.1 (i1.2.1.le (fitr_le fk1).1) (i1.2.2.le (fitr_le fk2).1) (i2.2.1.le (fitr_le fk3).1) (i2.2.2.le (fitr_le fk4).1) ).mono ?_
  rintro e w' ⟨v, rfl, q1, q2, q3, hb'⟩
  exact ⟨v, rfl, (rsp_is g1 g2).2 ⟨q1, q2, q3⟩, hb'⟩
noncomputable def cl_rnegsp_1 (a : Rat) (b : Rat) : List Cl := [
  clR a 400,
  clR b 400,
  clR (-(b)) 400,
  clR (-(a)) 400]
def t_rnegsp_1 : List Ent := [
  ⟨.call 38, [rq 1], (.val (rq 2))⟩,
  ⟨.call 38, [rq 0], (.val (rq 3))⟩]
set_option maxRecDepth 100000 in
theorem rnegsp_ok (v0 : Value) (a b : Rat) (w : World) (q0 : RSp w v0 a b) (za : Siz a 400) (zb : Siz b 400)  :
    Calls Tryz.prog 103 #[v0] w (fun en w' => ∃ v, en = .returned v ∧ RSp w' v (-(b)) (-(a)) ∧ Siz (-(b)) 400 ∧ Siz (-(a)) 400 ∧ Below w.heap.size w w') := by
  have hC : (mkC [3, 3, 3, 3] [true, true, true, true] [33, 68] 10 (cl_rnegsp_1 a b) w).Ok := mkC_ok (oks_cons (clR_ok (by decide) _ _) <| oks_cons (clR_ok (by decide) _ _) <| oks_cons (clR_ok (by decide) _ _) <| oks_cons (clR_ok (by decide) _ _) <| oks_nil) rfl rfl
  have hT : ∀ t ∈ t_rnegsp_1, t.Valid (mkC [3, 3, 3, 3] [true, true, true, true] [33, 68] 10 (cl_rnegsp_1 a b) w) :=
    forall_cons (e_rneg (pr rfl) rfl rfl) <|
    forall_cons (e_rneg (pr rfl) rfl rfl) <|
    forall_nil
  refine Calls.mono (run_mk hC hT 103 Tryz.f103 [rsp 0 1] (.val (rsp 2 3)) 200 Tryz.func103 rfl rfl rfl (by kernel_rfl) [v0] ⟨v0, _, rfl, (rsp_is rfl rfl).2 ⟨q0, za, zb⟩, rfl⟩) ?_
  rintro e w' ⟨v, rfl, hv, hb⟩; obtain ⟨h1, h2, h3⟩ := (rsp_is rfl rfl).1 hv; exact ⟨v, rfl, h1, h2, h3, hb⟩
theorem e_rnegsp {csz : List Nat} {numc : List Bool} {okT : List Nat} {nt : Nat} {cl : List Cl} {w0 : World} {p1 : Pat} {c1 c2 k1 k2 : Nat} {a b : Rat}  (h1 : PRS csz numc okT nt cl w0 p1 a k1 b k2) (fk1 : fitr k1 400 = true) (fk2 : fitr k2 400 = true)  (g1 : cl[c1]? = some (clR (-(b)) 400)) (g2 : cl[c2]? = some (clR (-(a)) 400)) : V csz numc okT nt cl w0 (.call 103) [p1] (.val (rsp c1 c2)) := by
  refine ⟨enters_of Tryz.func103 (by kernel_rfl) rfl, fun w vs hb hvs => ?_⟩
  obtain ⟨u1, _, rfl, j1, rfl⟩ := hvs
  have i1 := h1 _ _ j1
  refine (rnegsp_ok u1 _ _ w i1.1 (i1.2.1.le (fitr_le fk1).1) (i1.2.2.le (fitr_le fk2).1) ).mono ?_
  rintro e w' ⟨v, rfl, q1, q2, q3, hb'⟩
  exact ⟨v, rfl, (rsp_is g1 g2).2 ⟨q1, q2, q3⟩, hb'⟩
noncomputable def cl_rminussp_1 (a : Rat) (b : Rat) (c : Rat) (d : Rat) : List Cl := [
  clR a 400,
  clR b 400,
  clR c 400,
  clR d 400,
  clR (-(d)) 400,
  clR (-(c)) 400,
  clR (a + (-(d))) 801,
  clR (b + (-(c))) 801]
def t_rminussp_1 : List Ent := [
  ⟨.call 103, [rsp 2 3], (.val (rsp 4 5))⟩,
  ⟨.call 48, [rsp 0 1, rsp 4 5], (.val (rsp 6 7))⟩]
set_option maxRecDepth 100000 in
theorem rminussp_ok (v0 : Value) (v1 : Value) (a b c d : Rat) (w : World) (q0 : RSp w v0 a b) (q1 : RSp w v1 c d) (za : Siz a 400) (zb : Siz b 400) (zc : Siz c 400) (zd : Siz d 400)  :
    Calls Tryz.prog 50 #[v0, v1] w (fun en w' => ∃ v, en = .returned v ∧ RSp w' v (a + (-(d))) (b + (-(c))) ∧ Siz (a + (-(d))) 801 ∧ Siz (b + (-(c))) 801 ∧ Below w.heap.size w w') := by
  have hC : (mkC [3, 3, 3, 3, 3, 3, 3, 3] [true, true, true, true, true, true, true, true] [33, 68] 9 (cl_rminussp_1 a b c d) w).Ok := mkC_ok (oks_cons (clR_ok (by decide) _ _) <| oks_cons (clR_ok (by decide) _ _) <| oks_cons (clR_ok (by decide) _ _) <| oks_cons (clR_ok (by decide) _ _) <| oks_cons (clR_ok (by decide) _ _) <| oks_cons (clR_ok (by decide) _ _) <| oks_cons (clR_ok (by decide) _ _) <| oks_cons (clR_ok (by decide) _ _) <| oks_nil) rfl rfl
  have hT : ∀ t ∈ t_rminussp_1, t.Valid (mkC [3, 3, 3, 3, 3, 3, 3, 3] [true, true, true, true, true, true, true, true] [33, 68] 9 (cl_rminussp_1 a b c d) w) :=
    forall_cons (e_rnegsp (prs rfl rfl) rfl rfl rfl rfl) <|
    forall_cons (e_rplussp (prs rfl rfl) (prs rfl rfl) rfl rfl rfl rfl rfl rfl) <|
    forall_nil
  refine Calls.mono (run_mk hC hT 50 Tryz.f50 [rsp 0 1, rsp 2 3] (.val (rsp 6 7)) 200 Tryz.func50 rfl rfl rfl (by kernel_rfl) [v0, v1] ⟨v0, _, rfl, (rsp_is rfl rfl).2 ⟨q0, za, zb⟩, ⟨v1, _, rfl, (rsp_is rfl rfl).2 ⟨q1, zc, zd⟩, rfl⟩⟩) ?_
  rintro e w' ⟨v, rfl, hv, hb⟩; obtain ⟨h1, h2, h3⟩ := (rsp_is rfl rfl).1 hv; exact ⟨v, rfl, h1, h2, h3, hb⟩
theorem e_rminussp {csz : List Nat} {numc : List Bool} {okT : List Nat} {nt : Nat} {cl : List Cl} {w0 : World} {p1 p2 : Pat} {c1 c2 k1 k2 k3 k4 : Nat} {a b c d : Rat}  (h1 : PRS csz numc okT nt cl w0 p1 a k1 b k2) (h2 : PRS csz numc okT nt cl w0 p2 c k3 d k4) (fk1 : fitr k1 400 = true) (fk2 : fitr k2 400 = true) (fk3 : fitr k3 400 = true) (fk4 : fitr k4 400 = true)  (g1 : cl[c1]? = some (clR (a + (-(d))) 801)) (g2 : cl[c2]? = some (clR (b + (-(c))) 801)) : V csz numc okT nt cl w0 (.call 50) [p1, p2] (.val (rsp c1 c2)) := by
  refine ⟨enters_of Tryz.func50 (by kernel_rfl) rfl, fun w vs hb hvs => ?_⟩
  obtain ⟨u1, _, rfl, j1, ⟨u2, _, rfl, j2, rfl⟩⟩ := hvs
  have i1 := h1 _ _ j1
  have i2 := h2 _ _ j2
  refine (rminussp_ok u1 u2 _ _ _ _ w i1.1 i2.1 (i1.2.1.le (fitr_le fk1).1) (i1.2.2.le (fitr_le fk2).1) (i2.2.1.le (fitr_le fk3).1) (i2.2.2.le (fitr_le fk4).1) ).mono ?_
  rintro e w' ⟨v, rfl, q1, q2, q3, hb'⟩
  exact ⟨v, rfl, (rsp_is g1 g2).2 ⟨q1, q2, q3⟩, hb'⟩
noncomputable def cl_rtimessp_1 (a : Rat) (b : Rat) (c : Rat) (d : Rat) : List Cl := [
  clR a 400,
  clR b 400,
  clR c 400,
  clR d 400,
  clR (a * c) 800,
  clR (a * d) 800,
  clR (b * c) 800,
  clR (b * d) 800,
  clR (lowR (a * c) [a * d, b * c, b * d]) 800,
  clR (highR (a * c) [a * d, b * c, b * d]) 800]
def t_rtimessp_1 : List Ent := [
  ⟨.call 30, [rq 0, rq 2], (.val (rq 4))⟩,
  ⟨.call 30, [rq 0, rq 3], (.val (rq 5))⟩,
  ⟨.call 30, [rq 1, rq 2], (.val (rq 6))⟩,
  ⟨.call 30, [rq 1, rq 3], (.val (rq 7))⟩,
  ⟨.call 104, [.slc 33 4 [.cls 4 3, .cls 5 3, .cls 6 3, .cls 7 3]], (.val (rsp 8 9))⟩]
set_option maxRecDepth 100000 in
theorem rtimessp_ok (v0 : Value) (v1 : Value) (a b c d : Rat) (w : World) (q0 : RSp w v0 a b) (q1 : RSp w v1 c d) (za : Siz a 400) (zb : Siz b 400) (zc : Siz c 400) (zd : Siz d 400)  :
    Calls Tryz.prog 52 #[v0, v1] w (fun en w' => ∃ v, en = .returned v ∧ RSp w' v (lowR (a * c) [a * d, b * c, b * d]) (highR (a * c) [a * d, b * c, b * d]) ∧ Siz (lowR (a * c) [a * d, b * c, b * d]) 800 ∧ Siz (highR (a * c) [a * d, b * c, b * d]) 800 ∧ Below w.heap.size w w') := by
  have hC : (mkC [3, 3, 3, 3, 3, 3, 3, 3, 3, 3] [true, true, true, true, true, true, true, true, true, true] [33, 68] 27 (cl_rtimessp_1 a b c d) w).Ok := mkC_ok (oks_cons (clR_ok (by decide) _ _) <| oks_cons (clR_ok (by decide) _ _) <| oks_cons (clR_ok (by decide) _ _) <| oks_cons (clR_ok (by decide) _ _) <| oks_cons (clR_ok (by decide) _ _) <| oks_cons (clR_ok (by decide) _ _) <| oks_cons (clR_ok (by decide) _ _) <| oks_cons (clR_ok (by decide) _ _) <| oks_cons (clR_ok (by decide) _ _) <| oks_cons (clR_ok (by decide) _ _) <| oks_nil) rfl rfl
  have hT : ∀ t ∈ t_rtimessp_1, t.Valid (mkC [3, 3, 3, 3, 3, 3, 3, 3, 3, 3] [true, true, true, true, true, true, true, true, true, true] [33, 68] 27 (cl_rtimessp_1 a b c d) w) :=
    forall_cons (e_rmul (pr rfl) (pr rfl) rfl rfl) <|
    forall_cons (e_rmul (pr rfl) (pr rfl) rfl rfl) <|
    forall_cons (e_rmul (pr rfl) (pr rfl) rfl rfl) <|
    forall_cons (e_rmul (pr rfl) (pr rfl) rfl rfl) <|
    forall_cons (e_ends (plS (rs := [a * c, a * d, b * c, b * d]) (k := 800) ⟨_, _, _, _, rfl, rfl, rfl, by decide, ⟨_, _, _, _, rfl, rfl, rfl, by decide, ⟨_, _, _, _, rfl, rfl, rfl, by decide, ⟨_, _, _, _, rfl, rfl, rfl, by decide, rfl⟩⟩⟩⟩ rfl) rfl rfl rfl rfl rfl rfl) <|
    forall_nil
  refine Calls.mono (run_mk hC hT 52 Tryz.f52 [rsp 0 1, rsp 2 3] (.val (rsp 8 9)) 200 Tryz.func52 rfl rfl rfl (by kernel_rfl) [v0, v1] ⟨v0, _, rfl, (rsp_is rfl rfl).2 ⟨q0, za, zb⟩, ⟨v1, _, rfl, (rsp_is rfl rfl).2 ⟨q1, zc, zd⟩, rfl⟩⟩) ?_
  rintro e w' ⟨v, rfl, hv, hb⟩; obtain ⟨h1, h2, h3⟩ := (rsp_is rfl rfl).1 hv; exact ⟨v, rfl, h1, h2, h3, hb⟩
theorem e_rtimessp {csz : List Nat} {numc : List Bool} {okT : List Nat} {nt : Nat} {cl : List Cl} {w0 : World} {p1 p2 : Pat} {c1 c2 k1 k2 k3 k4 : Nat} {a b c d : Rat}  (h1 : PRS csz numc okT nt cl w0 p1 a k1 b k2) (h2 : PRS csz numc okT nt cl w0 p2 c k3 d k4) (fk1 : fitr k1 400 = true) (fk2 : fitr k2 400 = true) (fk3 : fitr k3 400 = true) (fk4 : fitr k4 400 = true)  (g1 : cl[c1]? = some (clR (lowR (a * c) [a * d, b * c, b * d]) 800)) (g2 : cl[c2]? = some (clR (highR (a * c) [a * d, b * c, b * d]) 800)) : V csz numc okT nt cl w0 (.call 52) [p1, p2] (.val (rsp c1 c2)) := by
  refine ⟨enters_of Tryz.func52 (by kernel_rfl) rfl, fun w vs hb hvs => ?_⟩
  obtain ⟨u1, _, rfl, j1, ⟨u2, _, rfl, j2, rfl⟩⟩ := hvs
  have i1 := h1 _ _ j1
  have i2 := h2 _ _ j2
  refine (rtimessp_ok u1 u2 _ _ _ _ w i1.1 i2.1 (i1.2.1.le (fitr_le fk1).1) (i1.2.2.le (fitr_le fk2).1) (i2.2.1.le (fitr_le fk3).1) (i2.2.2.le (fitr_le fk4).1) ).mono ?_
  rintro e w' ⟨v, rfl, q1, q2, q3, hb'⟩
  exact ⟨v, rfl, (rsp_is g1 g2).2 ⟨q1, q2, q3⟩, hb'⟩
noncomputable def cl_rhull_1 (a : Rat) (b : Rat) (c : Rat) (d : Rat) : List Cl := [
  clR a 400,
  clR b 400,
  clR c 400,
  clR d 400,
  clR (minQ a c) 400,
  clR (maxQ b d) 400]
def t_rhull_1 : List Ent := [
  ⟨.call 106, [rq 0, rq 2], (.val (rq 4))⟩,
  ⟨.call 107, [rq 1, rq 3], (.val (rq 5))⟩]
set_option maxRecDepth 100000 in
theorem rhull_ok (v0 : Value) (v1 : Value) (a b c d : Rat) (w : World) (q0 : RSp w v0 a b) (q1 : RSp w v1 c d) (za : Siz a 400) (zb : Siz b 400) (zc : Siz c 400) (zd : Siz d 400)  :
    Calls Tryz.prog 54 #[v0, v1] w (fun en w' => ∃ v, en = .returned v ∧ RSp w' v (minQ a c) (maxQ b d) ∧ Siz (minQ a c) 400 ∧ Siz (maxQ b d) 400 ∧ Below w.heap.size w w') := by
  have hC : (mkC [3, 3, 3, 3, 3, 3] [true, true, true, true, true, true] [33, 68] 16 (cl_rhull_1 a b c d) w).Ok := mkC_ok (oks_cons (clR_ok (by decide) _ _) <| oks_cons (clR_ok (by decide) _ _) <| oks_cons (clR_ok (by decide) _ _) <| oks_cons (clR_ok (by decide) _ _) <| oks_cons (clR_ok (by decide) _ _) <| oks_cons (clR_ok (by decide) _ _) <| oks_nil) rfl rfl
  have hT : ∀ t ∈ t_rhull_1, t.Valid (mkC [3, 3, 3, 3, 3, 3] [true, true, true, true, true, true] [33, 68] 16 (cl_rhull_1 a b c d) w) :=
    forall_cons (e_rminm (pr rfl) (pr rfl) rfl rfl rfl rfl) <|
    forall_cons (e_rmaxm (pr rfl) (pr rfl) rfl rfl rfl rfl) <|
    forall_nil
  refine Calls.mono (run_mk hC hT 54 Tryz.f54 [rsp 0 1, rsp 2 3] (.val (rsp 4 5)) 200 Tryz.func54 rfl rfl rfl (by kernel_rfl) [v0, v1] ⟨v0, _, rfl, (rsp_is rfl rfl).2 ⟨q0, za, zb⟩, ⟨v1, _, rfl, (rsp_is rfl rfl).2 ⟨q1, zc, zd⟩, rfl⟩⟩) ?_
  rintro e w' ⟨v, rfl, hv, hb⟩; obtain ⟨h1, h2, h3⟩ := (rsp_is rfl rfl).1 hv; exact ⟨v, rfl, h1, h2, h3, hb⟩
theorem e_rhull {csz : List Nat} {numc : List Bool} {okT : List Nat} {nt : Nat} {cl : List Cl} {w0 : World} {p1 p2 : Pat} {c1 c2 k1 k2 k3 k4 : Nat} {a b c d : Rat}  (h1 : PRS csz numc okT nt cl w0 p1 a k1 b k2) (h2 : PRS csz numc okT nt cl w0 p2 c k3 d k4) (fk1 : fitr k1 400 = true) (fk2 : fitr k2 400 = true) (fk3 : fitr k3 400 = true) (fk4 : fitr k4 400 = true)  (g1 : cl[c1]? = some (clR (minQ a c) 400)) (g2 : cl[c2]? = some (clR (maxQ b d) 400)) : V csz numc okT nt cl w0 (.call 54) [p1, p2] (.val (rsp c1 c2)) := by
  refine ⟨enters_of Tryz.func54 (by kernel_rfl) rfl, fun w vs hb hvs => ?_⟩
  obtain ⟨u1, _, rfl, j1, ⟨u2, _, rfl, j2, rfl⟩⟩ := hvs
  have i1 := h1 _ _ j1
  have i2 := h2 _ _ j2
  refine (rhull_ok u1 u2 _ _ _ _ w i1.1 i2.1 (i1.2.1.le (fitr_le fk1).1) (i1.2.2.le (fitr_le fk2).1) (i2.2.1.le (fitr_le fk3).1) (i2.2.2.le (fitr_le fk4).1) ).mono ?_
  rintro e w' ⟨v, rfl, q1, q2, q3, hb'⟩
  exact ⟨v, rfl, (rsp_is g1 g2).2 ⟨q1, q2, q3⟩, hb'⟩
noncomputable def cl_rvalue_1 (a : Rat) (b : Rat) (c : Rat) (d : Rat) : List Cl := [
  clR a 810,
  clR b 810,
  clR c 810,
  clR d 810,
  clR (d * d) 1620,
  clR (a * (d * d)) 2430,
  clR (b * d) 1620,
  clR ((a * (d * d)) + (b * d)) 4051,
  clR (((a * (d * d)) + (b * d)) + c) 4862]
def t_rvalue_1 : List Ent := [
  ⟨.call 30, [rq 3, rq 3], (.val (rq 4))⟩,
  ⟨.call 30, [rq 0, rq 4], (.val (rq 5))⟩,
  ⟨.call 30, [rq 1, rq 3], (.val (rq 6))⟩,
  ⟨.call 26, [rq 5, rq 6], (.val (rq 7))⟩,
  ⟨.call 26, [rq 7, rq 2], (.val (rq 8))⟩]
set_option maxRecDepth 100000 in
theorem rvalue_ok (v0 : Value) (v1 : Value) (v2 : Value) (v3 : Value) (a b c d : Rat) (w : World) (q0 : RQ w v0 a) (q1 : RQ w v1 b) (q2 : RQ w v2 c) (q3 : RQ w v3 d) (za : Siz a 810) (zb : Siz b 810) (zc : Siz c 810) (zd : Siz d 810)  :
    Calls Tryz.prog 113 #[v0, v1, v2, v3] w (fun en w' => ∃ v, en = .returned v ∧ RQ w' v (((a * (d * d)) + (b * d)) + c) ∧ Siz (((a * (d * d)) + (b * d)) + c) 4862 ∧ Below w.heap.size w w') := by
  have hC : (mkC [3, 3, 3, 3, 3, 3, 3, 3, 3] [true, true, true, true, true, true, true, true, true] [33, 68] 20 (cl_rvalue_1 a b c d) w).Ok := mkC_ok (oks_cons (clR_ok (by decide) _ _) <| oks_cons (clR_ok (by decide) _ _) <| oks_cons (clR_ok (by decide) _ _) <| oks_cons (clR_ok (by decide) _ _) <| oks_cons (clR_ok (by decide) _ _) <| oks_cons (clR_ok (by decide) _ _) <| oks_cons (clR_ok (by decide) _ _) <| oks_cons (clR_ok (by decide) _ _) <| oks_cons (clR_ok (by decide) _ _) <| oks_nil) rfl rfl
  have hT : ∀ t ∈ t_rvalue_1, t.Valid (mkC [3, 3, 3, 3, 3, 3, 3, 3, 3] [true, true, true, true, true, true, true, true, true] [33, 68] 20 (cl_rvalue_1 a b c d) w) :=
    forall_cons (e_rmul (pr rfl) (pr rfl) rfl rfl) <|
    forall_cons (e_rmul (pr rfl) (pr rfl) rfl rfl) <|
    forall_cons (e_rmul (pr rfl) (pr rfl) rfl rfl) <|
    forall_cons (e_radd (pr rfl) (pr rfl) rfl rfl) <|
    forall_cons (e_radd (pr rfl) (pr rfl) rfl rfl) <|
    forall_nil
  refine Calls.mono (run_mk hC hT 113 Tryz.f113 [rq 0, rq 1, rq 2, rq 3] (.val (rq 8)) 200 Tryz.func113 rfl rfl rfl (by kernel_rfl) [v0, v1, v2, v3] ⟨v0, _, rfl, (rq_is rfl).2 ⟨q0, za⟩, ⟨v1, _, rfl, (rq_is rfl).2 ⟨q1, zb⟩, ⟨v2, _, rfl, (rq_is rfl).2 ⟨q2, zc⟩, ⟨v3, _, rfl, (rq_is rfl).2 ⟨q3, zd⟩, rfl⟩⟩⟩⟩) ?_
  rintro e w' ⟨v, rfl, hv, hb⟩; obtain ⟨h1, h2⟩ := (rq_is rfl).1 hv; exact ⟨v, rfl, h1, h2, hb⟩
theorem e_rvalue {csz : List Nat} {numc : List Bool} {okT : List Nat} {nt : Nat} {cl : List Cl} {w0 : World} {p1 p2 p3 p4 : Pat} {c1 k1 k2 k3 k4 : Nat} {a b c d : Rat}  (h1 : PR csz numc okT nt cl w0 p1 a k1) (h2 : PR csz numc okT nt cl w0 p2 b k2) (h3 : PR csz numc okT nt cl w0 p3 c k3) (h4 : PR csz numc okT nt cl w0 p4 d k4) (fk1 : fitr k1 810 = true) (fk2 : fitr k2 810 = true) (fk3 : fitr k3 810 = true) (fk4 : fitr k4 810 = true)  (g1 : cl[c1]? = some (clR (((a * (d * d)) + (b * d)) + c) 4862)) : V csz numc okT nt cl w0 (.call 113) [p1, p2, p3, p4] (.val (rq c1)) := by
  refine ⟨enters_of Tryz.func113 (by kernel_rfl) rfl, fun w vs hb hvs => ?_⟩
  obtain ⟨u1, _, rfl, j1, ⟨u2, _, rfl, j2, ⟨u3, _, rfl, j3, ⟨u4, _, rfl, j4, rfl⟩⟩⟩⟩ := hvs
  have i1 := h1 _ _ j1
  have i2 := h2 _ _ j2
  have i3 := h3 _ _ j3
  have i4 := h4 _ _ j4
  refine (rvalue_ok u1 u2 u3 u4 _ _ _ _ w i1.1 i2.1 i3.1 i4.1 (i1.2.le (fitr_le fk1).1) (i2.2.le (fitr_le fk2).1) (i3.2.le (fitr_le fk3).1) (i4.2.le (fitr_le fk4).1) ).mono ?_
  rintro e w' ⟨v, rfl, q1, q2, hb'⟩
  exact ⟨v, rfl, (rq_is g1).2 ⟨q1, q2⟩, hb'⟩
theorem first_has {lo hi x : Rat} (h1 : cmpQ lo x = 1) : hasR lo hi x = false := by
  unfold hasR
  have : ¬ lo ≤ x := fun h => by have := cmp_le_iff.2 h; omega
  rw [decide_eq_false this, Bool.false_and]
noncomputable def cl_rhas_1 (a : Rat) (b : Rat) (c : Rat) : List Cl := [
  clR a 810,
  clR b 810,
  clR c 810]
def t_rhas_1 : List Ent := [
  ⟨.call 32, [rq 0, rq 2], (.val (vp (.int .i64 (-1))))⟩,
  ⟨.call 32, [rq 2, rq 1], (.val (vp (.int .i64 (-1))))⟩]
noncomputable def cl_rhas_2 (a : Rat) (b : Rat) (c : Rat) : List Cl := [
  clR a 810,
  clR b 810,
  clR c 810]
def t_rhas_2 : List Ent := [
  ⟨.call 32, [rq 0, rq 2], (.val (vp (.int .i64 (-1))))⟩,
  ⟨.call 32, [rq 2, rq 1], (.val (vp (.int .i64 0)))⟩]
noncomputable def cl_rhas_3 (a : Rat) (b : Rat) (c : Rat) : List Cl := [
  clR a 810,
  clR b 810,
  clR c 810]
def t_rhas_3 : List Ent := [
  ⟨.call 32, [rq 0, rq 2], (.val (vp (.int .i64 (-1))))⟩,
  ⟨.call 32, [rq 2, rq 1], (.val (vp (.int .i64 1)))⟩]
noncomputable def cl_rhas_4 (a : Rat) (b : Rat) (c : Rat) : List Cl := [
  clR a 810,
  clR b 810,
  clR c 810]
def t_rhas_4 : List Ent := [
  ⟨.call 32, [rq 0, rq 2], (.val (vp (.int .i64 0)))⟩,
  ⟨.call 32, [rq 2, rq 1], (.val (vp (.int .i64 (-1))))⟩]
noncomputable def cl_rhas_5 (a : Rat) (b : Rat) (c : Rat) : List Cl := [
  clR a 810,
  clR b 810,
  clR c 810]
def t_rhas_5 : List Ent := [
  ⟨.call 32, [rq 0, rq 2], (.val (vp (.int .i64 0)))⟩,
  ⟨.call 32, [rq 2, rq 1], (.val (vp (.int .i64 0)))⟩]
noncomputable def cl_rhas_6 (a : Rat) (b : Rat) (c : Rat) : List Cl := [
  clR a 810,
  clR b 810,
  clR c 810]
def t_rhas_6 : List Ent := [
  ⟨.call 32, [rq 0, rq 2], (.val (vp (.int .i64 0)))⟩,
  ⟨.call 32, [rq 2, rq 1], (.val (vp (.int .i64 1)))⟩]
noncomputable def cl_rhas_7 (a : Rat) (b : Rat) (c : Rat) : List Cl := [
  clR a 810,
  clR b 810,
  clR c 810]
def t_rhas_7 : List Ent := [
  ⟨.call 32, [rq 0, rq 2], (.val (vp (.int .i64 1)))⟩]
set_option maxRecDepth 100000 in
theorem rhas_ok (v0 : Value) (v1 : Value) (a b c : Rat) (w : World) (q0 : RSp w v0 a b) (q1 : RQ w v1 c) (za : Siz a 810) (zb : Siz b 810) (zc : Siz c 810)  :
    Calls Tryz.prog 57 #[v0, v1] w (Go.Proofs.YtccabfblgjcboaaGreatDoor.Val w (.bool (hasR a b c))) := by
  rcases cmp3 a c with h1 | h1 | h1
  · skip
    rcases cmp3 c b with h2 | h2 | h2
    · skip
      have hC : (mkC [3, 3, 3] [true, true, true] [33, 68] 17 (cl_rhas_1 a b c) w).Ok := mkC_ok (oks_cons (clR_ok (by decide) _ _) <| oks_cons (clR_ok (by decide) _ _) <| oks_cons (clR_ok (by decide) _ _) <| oks_nil) rfl rfl
      have hT : ∀ t ∈ t_rhas_1, t.Valid (mkC [3, 3, 3] [true, true, true] [33, 68] 17 (cl_rhas_1 a b c) w) :=
        forall_cons (e_rcmp (pr rfl) (pr rfl) rfl h1) <|
        forall_cons (e_rcmp (pr rfl) (pr rfl) rfl h2) <|
        forall_nil
      refine Calls.mono (run_mk hC hT 57 Tryz.f57 [rsp 0 1, rq 2] (.val (vp (.bool true))) 200 Tryz.func57 rfl rfl rfl (by kernel_rfl) [v0, v1] ⟨v0, _, rfl, (rsp_is rfl rfl).2 ⟨q0, za, zb⟩, ⟨v1, _, rfl, (rq_is rfl).2 ⟨q1, zc⟩, rfl⟩⟩) ?_
      rintro e w' ⟨v, rfl, hv, hb⟩; rw [val_of hv]; refine ⟨?_, hb⟩; rw [cmp_has h1 h2]; rfl
    · skip
      have hC : (mkC [3, 3, 3] [true, true, true] [33, 68] 17 (cl_rhas_2 a b c) w).Ok := mkC_ok (oks_cons (clR_ok (by decide) _ _) <| oks_cons (clR_ok (by decide) _ _) <| oks_cons (clR_ok (by decide) _ _) <| oks_nil) rfl rfl
      have hT : ∀ t ∈ t_rhas_2, t.Valid (mkC [3, 3, 3] [true, true, true] [33, 68] 17 (cl_rhas_2 a b c) w) :=
        forall_cons (e_rcmp (pr rfl) (pr rfl) rfl h1) <|
        forall_cons (e_rcmp (pr rfl) (pr rfl) rfl h2) <|
        forall_nil
      refine Calls.mono (run_mk hC hT 57 Tryz.f57 [rsp 0 1, rq 2] (.val (vp (.bool true))) 200 Tryz.func57 rfl rfl rfl (by kernel_rfl) [v0, v1] ⟨v0, _, rfl, (rsp_is rfl rfl).2 ⟨q0, za, zb⟩, ⟨v1, _, rfl, (rq_is rfl).2 ⟨q1, zc⟩, rfl⟩⟩) ?_
      rintro e w' ⟨v, rfl, hv, hb⟩; rw [val_of hv]; refine ⟨?_, hb⟩; rw [cmp_has h1 h2]; rfl
    · skip
      have hC : (mkC [3, 3, 3] [true, true, true] [33, 68] 17 (cl_rhas_3 a b c) w).Ok := mkC_ok (oks_cons (clR_ok (by decide) _ _) <| oks_cons (clR_ok (by decide) _ _) <| oks_cons (clR_ok (by decide) _ _) <| oks_nil) rfl rfl
      have hT : ∀ t ∈ t_rhas_3, t.Valid (mkC [3, 3, 3] [true, true, true] [33, 68] 17 (cl_rhas_3 a b c) w) :=
        forall_cons (e_rcmp (pr rfl) (pr rfl) rfl h1) <|
        forall_cons (e_rcmp (pr rfl) (pr rfl) rfl h2) <|
        forall_nil
      refine Calls.mono (run_mk hC hT 57 Tryz.f57 [rsp 0 1, rq 2] (.val (vp (.bool false))) 200 Tryz.func57 rfl rfl rfl (by kernel_rfl) [v0, v1] ⟨v0, _, rfl, (rsp_is rfl rfl).2 ⟨q0, za, zb⟩, ⟨v1, _, rfl, (rq_is rfl).2 ⟨q1, zc⟩, rfl⟩⟩) ?_
      rintro e w' ⟨v, rfl, hv, hb⟩; rw [val_of hv]; refine ⟨?_, hb⟩; rw [cmp_has h1 h2]; rfl
  · skip
    rcases cmp3 c b with h2 | h2 | h2
    · skip
      have hC : (mkC [3, 3, 3] [true, true, true] [33, 68] 17 (cl_rhas_4 a b c) w).Ok := mkC_ok (oks_cons (clR_ok (by decide) _ _) <| oks_cons (clR_ok (by decide) _ _) <| oks_cons (clR_ok (by decide) _ _) <| oks_nil) rfl rfl
      have hT : ∀ t ∈ t_rhas_4, t.Valid (mkC [3, 3, 3] [true, true, true] [33, 68] 17 (cl_rhas_4 a b c) w) :=
        forall_cons (e_rcmp (pr rfl) (pr rfl) rfl h1) <|
        forall_cons (e_rcmp (pr rfl) (pr rfl) rfl h2) <|
        forall_nil
      refine Calls.mono (run_mk hC hT 57 Tryz.f57 [rsp 0 1, rq 2] (.val (vp (.bool true))) 200 Tryz.func57 rfl rfl rfl (by kernel_rfl) [v0, v1] ⟨v0, _, rfl, (rsp_is rfl rfl).2 ⟨q0, za, zb⟩, ⟨v1, _, rfl, (rq_is rfl).2 ⟨q1, zc⟩, rfl⟩⟩) ?_
      rintro e w' ⟨v, rfl, hv, hb⟩; rw [val_of hv]; refine ⟨?_, hb⟩; rw [cmp_has h1 h2]; rfl
    · skip
      have hC : (mkC [3, 3, 3] [true, true, true] [33, 68] 17 (cl_rhas_5 a b c) w).Ok := mkC_ok (oks_cons (clR_ok (by decide) _ _) <| oks_cons (clR_ok (by decide) _ _) <| oks_cons (clR_ok (by decide) _ _) <| oks_nil) rfl rfl
      have hT : ∀ t ∈ t_rhas_5, t.Valid (mkC [3, 3, 3] [true, true, true] [33, 68] 17 (cl_rhas_5 a b c) w) :=
        forall_cons (e_rcmp (pr rfl) (pr rfl) rfl h1) <|
        forall_cons (e_rcmp (pr rfl) (pr rfl) rfl h2) <|
        forall_nil
      refine Calls.mono (run_mk hC hT 57 Tryz.f57 [rsp 0 1, rq 2] (.val (vp (.bool true))) 200 Tryz.func57 rfl rfl rfl (by kernel_rfl) [v0, v1] ⟨v0, _, rfl, (rsp_is rfl rfl).2 ⟨q0, za, zb⟩, ⟨v1, _, rfl, (rq_is rfl).2 ⟨q1, zc⟩, rfl⟩⟩) ?_
      rintro e w' ⟨v, rfl, hv, hb⟩; rw [val_of hv]; refine ⟨?_, hb⟩; rw [cmp_has h1 h2]; rfl
    · skip
      have hC : (mkC [3, 3, 3] [true, true, true] [33, 68] 17 (cl_rhas_6 a b c) w).Ok := mkC_ok (oks_cons (clR_ok (by decide) _ _) <| oks_cons (clR_ok (by decide) _ _) <| oks_cons (clR_ok (by decide) _ _) <| oks_nil) rfl rfl
      have hT : ∀ t ∈ t_rhas_6, t.Valid (mkC [3, 3, 3] [true, true, true] [33, 68] 17 (cl_rhas_6 a b c) w) :=
        forall_cons (e_rcmp (pr rfl) (pr rfl) rfl h1) <|
        forall_cons (e_rcmp (pr rfl) (pr rfl) rfl h2) <|
        forall_nil
      refine Calls.mono (run_mk hC hT 57 Tryz.f57 [rsp 0 1, rq 2] (.val (vp (.bool false))) 200 Tryz.func57 rfl rfl rfl (by kernel_rfl) [v0, v1] ⟨v0, _, rfl, (rsp_is rfl rfl).2 ⟨q0, za, zb⟩, ⟨v1, _, rfl, (rq_is rfl).2 ⟨q1, zc⟩, rfl⟩⟩) ?_
      rintro e w' ⟨v, rfl, hv, hb⟩; rw [val_of hv]; refine ⟨?_, hb⟩; rw [cmp_has h1 h2]; rfl
  · skip
    have hC : (mkC [3, 3, 3] [true, true, true] [33, 68] 17 (cl_rhas_7 a b c) w).Ok := mkC_ok (oks_cons (clR_ok (by decide) _ _) <| oks_cons (clR_ok (by decide) _ _) <| oks_cons (clR_ok (by decide) _ _) <| oks_nil) rfl rfl
    have hT : ∀ t ∈ t_rhas_7, t.Valid (mkC [3, 3, 3] [true, true, true] [33, 68] 17 (cl_rhas_7 a b c) w) :=
      forall_cons (e_rcmp (pr rfl) (pr rfl) rfl h1) <|
      forall_nil
    refine Calls.mono (run_mk hC hT 57 Tryz.f57 [rsp 0 1, rq 2] (.val (vp (.bool false))) 200 Tryz.func57 rfl rfl rfl (by kernel_rfl) [v0, v1] ⟨v0, _, rfl, (rsp_is rfl rfl).2 ⟨q0, za, zb⟩, ⟨v1, _, rfl, (rq_is rfl).2 ⟨q1, zc⟩, rfl⟩⟩) ?_
    rintro e w' ⟨v, rfl, hv, hb⟩; rw [val_of hv]; refine ⟨?_, hb⟩; rw [first_has h1]
theorem e_rhas {csz : List Nat} {numc : List Bool} {okT : List Nat} {nt : Nat} {cl : List Cl} {w0 : World} {p1 p2 : Pat} {k1 k2 k3 : Nat} {a b c : Rat}  (h1 : PRS csz numc okT nt cl w0 p1 a k1 b k2) (h2 : PR csz numc okT nt cl w0 p2 c k3) (fk1 : fitr k1 810 = true) (fk2 : fitr k2 810 = true) (fk3 : fitr k3 810 = true) {x : Bool} (hx : hasR a b c = x)  : V csz numc okT nt cl w0 (.call 57) [p1, p2] (.val (vp (.bool x))) := by
  refine ⟨enters_of Tryz.func57 (by kernel_rfl) rfl, fun w vs hb hvs => ?_⟩
  obtain ⟨u1, _, rfl, j1, ⟨u2, _, rfl, j2, rfl⟩⟩ := hvs
  have i1 := h1 _ _ j1
  have i2 := h2 _ _ j2
  refine (rhas_ok u1 u2 _ _ _ w i1.1 i2.1 (i1.2.1.le (fitr_le fk1).1) (i1.2.2.le (fitr_le fk2).1) (i2.2.le (fitr_le fk3).1) ).mono ?_
  subst hx
  rintro e w' ⟨rfl, hb'⟩
  exact ⟨_, rfl, vp_r _ _ _, hb'⟩
noncomputable def cl_roversp_1 (a : Rat) (b : Rat) (c : Rat) (d : Rat) : List Cl := [
  clR a 400,
  clR b 400,
  clR c 400,
  clR d 400,
  clR (a / c) 800,
  clR (a / d) 800,
  clR (b / c) 800,
  clR (b / d) 800,
  clR (lowR (a / c) [a / d, b / c, b / d]) 800,
  clR (highR (a / c) [a / d, b / c, b / d]) 800]
def t_roversp_1 : List Ent := [
  ⟨.call 36, [rq 0, rq 2], (.val (rq 4))⟩,
  ⟨.call 36, [rq 0, rq 3], (.val (rq 5))⟩,
  ⟨.call 36, [rq 1, rq 2], (.val (rq 6))⟩,
  ⟨.call 36, [rq 1, rq 3], (.val (rq 7))⟩,
  ⟨.call 104, [.slc 33 4 [.cls 4 3, .cls 5 3, .cls 6 3, .cls 7 3]], (.val (rsp 8 9))⟩]
set_option maxRecDepth 100000 in
theorem roversp_ok (v0 : Value) (v1 : Value) (a b c d : Rat) (w : World) (q0 : RSp w v0 a b) (q1 : RSp w v1 c d) (za : Siz a 400) (zb : Siz b 400) (zc : Siz c 400) (zd : Siz d 400) (hc : decide (c.num = 0) = false) (hd : decide (d.num = 0) = false) :
    Calls Tryz.prog 65 #[v0, v1] w (fun en w' => ∃ v, en = .returned v ∧ RSp w' v (lowR (a / c) [a / d, b / c, b / d]) (highR (a / c) [a / d, b / c, b / d]) ∧ Siz (lowR (a / c) [a / d, b / c, b / d]) 800 ∧ Siz (highR (a / c) [a / d, b / c, b / d]) 800 ∧ Below w.heap.size w w') := by
  have hC : (mkC [3, 3, 3, 3, 3, 3, 3, 3, 3, 3] [true, true, true, true, true, true, true, true, true, true] [33, 68] 27 (cl_roversp_1 a b c d) w).Ok := mkC_ok (oks_cons (clR_ok (by decide) _ _) <| oks_cons (clR_ok (by decide) _ _) <| oks_cons (clR_ok (by decide) _ _) <| oks_cons (clR_ok (by decide) _ _) <| oks_cons (clR_ok (by decide) _ _) <| oks_cons (clR_ok (by decide) _ _) <| oks_cons (clR_ok (by decide) _ _) <| oks_cons (clR_ok (by decide) _ _) <| oks_cons (clR_ok (by decide) _ _) <| oks_cons (clR_ok (by decide) _ _) <| oks_nil) rfl rfl
  have hT : ∀ t ∈ t_roversp_1, t.Valid (mkC [3, 3, 3, 3, 3, 3, 3, 3, 3, 3] [true, true, true, true, true, true, true, true, true, true] [33, 68] 27 (cl_roversp_1 a b c d) w) :=
    forall_cons (e_rdiv (of_decide_eq_false hc) (pr rfl) (pr rfl) rfl rfl) <|
    forall_cons (e_rdiv (of_decide_eq_false hd) (pr rfl) (pr rfl) rfl rfl) <|
    forall_cons (e_rdiv (of_decide_eq_false hc) (pr rfl) (pr rfl) rfl rfl) <|
    forall_cons (e_rdiv (of_decide_eq_false hd) (pr rfl) (pr rfl) rfl rfl) <|
    forall_cons (e_ends (plS (rs := [a / c, a / d, b / c, b / d]) (k := 800) ⟨_, _, _, _, rfl, rfl, rfl, by decide, ⟨_, _, _, _, rfl, rfl, rfl, by decide, ⟨_, _, _, _, rfl, rfl, rfl, by decide, ⟨_, _, _, _, rfl, rfl, rfl, by decide, rfl⟩⟩⟩⟩ rfl) rfl rfl rfl rfl rfl rfl) <|
    forall_nil
  refine Calls.mono (run_mk hC hT 65 Tryz.f65 [rsp 0 1, rsp 2 3] (.val (rsp 8 9)) 200 Tryz.func65 rfl rfl rfl (by kernel_rfl) [v0, v1] ⟨v0, _, rfl, (rsp_is rfl rfl).2 ⟨q0, za, zb⟩, ⟨v1, _, rfl, (rsp_is rfl rfl).2 ⟨q1, zc, zd⟩, rfl⟩⟩) ?_
  rintro e w' ⟨v, rfl, hv, hb⟩; obtain ⟨h1, h2, h3⟩ := (rsp_is rfl rfl).1 hv; exact ⟨v, rfl, h1, h2, h3, hb⟩
theorem e_roversp {csz : List Nat} {numc : List Bool} {okT : List Nat} {nt : Nat} {cl : List Cl} {w0 : World} {p1 p2 : Pat} {c1 c2 k1 k2 k3 k4 : Nat} {a b c d : Rat}  (h1 : PRS csz numc okT nt cl w0 p1 a k1 b k2) (h2 : PRS csz numc okT nt cl w0 p2 c k3 d k4) (fk1 : fitr k1 400 = true) (fk2 : fitr k2 400 = true) (fk3 : fitr k3 400 = true) (fk4 : fitr k4 400 = true) (hc : decide (c.num = 0) = false) (hd : decide (d.num = 0) = false) (g1 : cl[c1]? = some (clR (lowR (a / c) [a / d, b / c, b / d]) 800)) (g2 : cl[c2]? = some (clR (highR (a / c) [a / d, b / c, b / d]) 800)) : V csz numc okT nt cl w0 (.call 65) [p1, p2] (.val (rsp c1 c2)) := by
  refine ⟨enters_of Tryz.func65 (by kernel_rfl) rfl, fun w vs hb hvs => ?_⟩
  obtain ⟨u1, _, rfl, j1, ⟨u2, _, rfl, j2, rfl⟩⟩ := hvs
  have i1 := h1 _ _ j1
  have i2 := h2 _ _ j2
  refine (roversp_ok u1 u2 _ _ _ _ w i1.1 i2.1 (i1.2.1.le (fitr_le fk1).1) (i1.2.2.le (fitr_le fk2).1) (i2.2.1.le (fitr_le fk3).1) (i2.2.2.le (fitr_le fk4).1) hc hd).mono ?_
  rintro e w' ⟨v, rfl, q1, q2, q3, hb'⟩
  exact ⟨v, rfl, (rsp_is g1 g2).2 ⟨q1, q2, q3⟩, hb'⟩
noncomputable def cl_rabssp_1 (a : Rat) (b : Rat) : List Cl := [
  clR a 400,
  clR b 400,
  clR (absQ a) 400,
  clR (absQ b) 400,
  clR ((0 : Int) : Rat) 1,
  clL [absQ a, absQ b, ((0 : Int) : Rat)] 400,
  clR (lowR (absQ a) [absQ b, ((0 : Int) : Rat)]) 400,
  clR (highR (absQ a) [absQ b, ((0 : Int) : Rat)]) 400]
def t_rabssp_1 : List Ent := [
  ⟨.call 40, [rq 0], (.val (rq 2))⟩,
  ⟨.call 40, [rq 1], (.val (rq 3))⟩,
  ⟨.call 16, [vp (.int .i64 0)], (.val (rq 4))⟩,
  ⟨.call 57, [rsp 0 1, rq 4], (.val (vp (.bool true)))⟩,
  ⟨.blt .append [92, 92] 92, [.slc 33 2 [.cls 2 3, .cls 3 3], .slc 33 1 [.cls 4 3]], (.val (op 5))⟩,
  ⟨.call 104, [op 5], (.val (rsp 6 7))⟩]
set_option maxRecDepth 100000 in
theorem rabssp_ok (v0 : Value) (a b : Rat) (w : World) (q0 : RSp w v0 a b) (za : Siz a 400) (zb : Siz b 400) (hx : hasR a b ((0 : Int) : Rat) = true) :
    Calls Tryz.prog 61 #[v0] w (fun en w' => ∃ v, en = .returned v ∧ RSp w' v (lowR (absQ a) [absQ b, ((0 : Int) : Rat)]) (highR (absQ a) [absQ b, ((0 : Int) : Rat)]) ∧ Siz (lowR (absQ a) [absQ b, ((0 : Int) : Rat)]) 400 ∧ Siz (highR (absQ a) [absQ b, ((0 : Int) : Rat)]) 400 ∧ Below w.heap.size w w') := by
  have hC : (mkC [3, 3, 3, 3, 3, 1, 3, 3] [true, true, true, true, true, false, true, true] [68] 20 (cl_rabssp_1 a b) w).Ok := mkC_ok (oks_cons (clR_ok (by decide) _ _) <| oks_cons (clR_ok (by decide) _ _) <| oks_cons (clR_ok (by decide) _ _) <| oks_cons (clR_ok (by decide) _ _) <| oks_cons (clR_ok (by decide) _ _) <| oks_cons (clL_ok (by decide) _ _ rfl) <| oks_cons (clR_ok (by decide) _ _) <| oks_cons (clR_ok (by decide) _ _) <| oks_nil) rfl rfl
  have hT : ∀ t ∈ t_rabssp_1, t.Valid (mkC [3, 3, 3, 3, 3, 1, 3, 3] [true, true, true, true, true, false, true, true] [68] 20 (cl_rabssp_1 a b) w) :=
    forall_cons (e_rabs (pr rfl) rfl rfl) <|
    forall_cons (e_rabs (pr rfl) rfl rfl) <|
    forall_cons (e_rint (by decide) (by decide) rfl rfl) <|
    forall_cons (e_rhas (prs rfl rfl) (pr rfl) rfl rfl rfl hx) <|
    forall_cons (e_app (rs := [absQ a, absQ b]) (k := 400) ⟨_, _, _, _, rfl, rfl, rfl, by decide, ⟨_, _, _, _, rfl, rfl, rfl, by decide, rfl⟩⟩ rfl rfl rfl (by decide) rfl) <|
    forall_cons (e_ends (plC rfl) rfl rfl rfl rfl rfl rfl) <|
    forall_nil
  refine Calls.mono (run_mk hC hT 61 Tryz.f61 [rsp 0 1] (.val (rsp 6 7)) 200 Tryz.func61 rfl rfl rfl (by kernel_rfl) [v0] ⟨v0, _, rfl, (rsp_is rfl rfl).2 ⟨q0, za, zb⟩, rfl⟩) ?_
  rintro e w' ⟨v, rfl, hv, hb⟩; obtain ⟨h1, h2, h3⟩ := (rsp_is rfl rfl).1 hv; exact ⟨v, rfl, h1, h2, h3, hb⟩
theorem e_rabssp {csz : List Nat} {numc : List Bool} {okT : List Nat} {nt : Nat} {cl : List Cl} {w0 : World} {p1 : Pat} {c1 c2 k1 k2 : Nat} {a b : Rat}  (h1 : PRS csz numc okT nt cl w0 p1 a k1 b k2) (fk1 : fitr k1 400 = true) (fk2 : fitr k2 400 = true) (hx : hasR a b ((0 : Int) : Rat) = true) (g1 : cl[c1]? = some (clR (lowR (absQ a) [absQ b, ((0 : Int) : Rat)]) 400)) (g2 : cl[c2]? = some (clR (highR (absQ a) [absQ b, ((0 : Int) : Rat)]) 400)) : V csz numc okT nt cl w0 (.call 61) [p1] (.val (rsp c1 c2)) := by
  refine ⟨enters_of Tryz.func61 (by kernel_rfl) rfl, fun w vs hb hvs => ?_⟩
  obtain ⟨u1, _, rfl, j1, rfl⟩ := hvs
  have i1 := h1 _ _ j1
  refine (rabssp_ok u1 _ _ w i1.1 (i1.2.1.le (fitr_le fk1).1) (i1.2.2.le (fitr_le fk2).1) hx).mono ?_
  rintro e w' ⟨v, rfl, q1, q2, q3, hb'⟩
  exact ⟨v, rfl, (rsp_is g1 g2).2 ⟨q1, q2, q3⟩, hb'⟩
noncomputable def cl_rabssp0_1 (a : Rat) (b : Rat) : List Cl := [
  clR a 400,
  clR b 400,
  clR (absQ a) 400,
  clR (absQ b) 400,
  clR ((0 : Int) : Rat) 1,
  clR (lowR (absQ a) [absQ b]) 400,
  clR (highR (absQ a) [absQ b]) 400]
def t_rabssp0_1 : List Ent := [
  ⟨.call 40, [rq 0], (.val (rq 2))⟩,
  ⟨.call 40, [rq 1], (.val (rq 3))⟩,
  ⟨.call 16, [vp (.int .i64 0)], (.val (rq 4))⟩,
  ⟨.call 57, [rsp 0 1, rq 4], (.val (vp (.bool false)))⟩,
  ⟨.call 104, [.slc 33 2 [.cls 2 3, .cls 3 3]], (.val (rsp 5 6))⟩]
set_option maxRecDepth 100000 in
theorem rabssp0_ok (v0 : Value) (a b : Rat) (w : World) (q0 : RSp w v0 a b) (za : Siz a 400) (zb : Siz b 400) (hx : hasR a b ((0 : Int) : Rat) = false) :
    Calls Tryz.prog 61 #[v0] w (fun en w' => ∃ v, en = .returned v ∧ RSp w' v (lowR (absQ a) [absQ b]) (highR (absQ a) [absQ b]) ∧ Siz (lowR (absQ a) [absQ b]) 400 ∧ Siz (highR (absQ a) [absQ b]) 400 ∧ Below w.heap.size w w') := by
  have hC : (mkC [3, 3, 3, 3, 3, 3, 3] [true, true, true, true, true, true, true] [68] 20 (cl_rabssp0_1 a b) w).Ok := mkC_ok (oks_cons (clR_ok (by decide) _ _) <| oks_cons (clR_ok (by decide) _ _) <| oks_cons (clR_ok (by decide) _ _) <| oks_cons (clR_ok (by decide) _ _) <| oks_cons (clR_ok (by decide) _ _) <| oks_cons (clR_ok (by decide) _ _) <| oks_cons (clR_ok (by decide) _ _) <| oks_nil) rfl rfl
  have hT : ∀ t ∈ t_rabssp0_1, t.Valid (mkC [3, 3, 3, 3, 3, 3, 3] [true, true, true, true, true, true, true] [68] 20 (cl_rabssp0_1 a b) w) :=
    forall_cons (e_rabs (pr rfl) rfl rfl) <|
    forall_cons (e_rabs (pr rfl) rfl rfl) <|
    forall_cons (e_rint (by decide) (by decide) rfl rfl) <|
    forall_cons (e_rhas (prs rfl rfl) (pr rfl) rfl rfl rfl hx) <|
    forall_cons (e_ends (plS (rs := [absQ a, absQ b]) (k := 400) ⟨_, _, _, _, rfl, rfl, rfl, by decide, ⟨_, _, _, _, rfl, rfl, rfl, by decide, rfl⟩⟩ rfl) rfl rfl rfl rfl rfl rfl) <|
    forall_nil
  refine Calls.mono (run_mk hC hT 61 Tryz.f61 [rsp 0 1] (.val (rsp 5 6)) 200 Tryz.func61 rfl rfl rfl (by kernel_rfl) [v0] ⟨v0, _, rfl, (rsp_is rfl rfl).2 ⟨q0, za, zb⟩, rfl⟩) ?_
  rintro e w' ⟨v, rfl, hv, hb⟩; obtain ⟨h1, h2, h3⟩ := (rsp_is rfl rfl).1 hv; exact ⟨v, rfl, h1, h2, h3, hb⟩
theorem e_rabssp0 {csz : List Nat} {numc : List Bool} {okT : List Nat} {nt : Nat} {cl : List Cl} {w0 : World} {p1 : Pat} {c1 c2 k1 k2 : Nat} {a b : Rat}  (h1 : PRS csz numc okT nt cl w0 p1 a k1 b k2) (fk1 : fitr k1 400 = true) (fk2 : fitr k2 400 = true) (hx : hasR a b ((0 : Int) : Rat) = false) (g1 : cl[c1]? = some (clR (lowR (absQ a) [absQ b]) 400)) (g2 : cl[c2]? = some (clR (highR (absQ a) [absQ b]) 400)) : V csz numc okT nt cl w0 (.call 61) [p1] (.val (rsp c1 c2)) := by
  refine ⟨enters_of Tryz.func61 (by kernel_rfl) rfl, fun w vs hb hvs => ?_⟩
  obtain ⟨u1, _, rfl, j1, rfl⟩ := hvs
  have i1 := h1 _ _ j1
  refine (rabssp0_ok u1 _ _ w i1.1 (i1.2.1.le (fitr_le fk1).1) (i1.2.2.le (fitr_le fk2).1) hx).mono ?_
  rintro e w' ⟨v, rfl, q1, q2, q3, hb'⟩
  exact ⟨v, rfl, (rsp_is g1 g2).2 ⟨q1, q2, q3⟩, hb'⟩
noncomputable def cl_rmeet_1 (a : Rat) (b : Rat) (c : Rat) (d : Rat) : List Cl := [
  clR a 400,
  clR b 400,
  clR c 400,
  clR d 400,
  clR (maxQ a c) 400,
  clR (minQ b d) 400]
def t_rmeet_1 : List Ent := [
  ⟨.call 107, [rq 0, rq 2], (.val (rq 4))⟩,
  ⟨.call 106, [rq 1, rq 3], (.val (rq 5))⟩,
  ⟨.call 32, [rq 4, rq 5], (.val (vp (.int .i64 (-1))))⟩]
noncomputable def cl_rmeet_2 (a : Rat) (b : Rat) (c : Rat) (d : Rat) : List Cl := [
  clR a 400,
  clR b 400,
  clR c 400,
  clR d 400,
  clR (maxQ a c) 400,
  clR (minQ b d) 400]
def t_rmeet_2 : List Ent := [
  ⟨.call 107, [rq 0, rq 2], (.val (rq 4))⟩,
  ⟨.call 106, [rq 1, rq 3], (.val (rq 5))⟩,
  ⟨.call 32, [rq 4, rq 5], (.val (vp (.int .i64 0)))⟩]
set_option maxRecDepth 100000 in
theorem rmeet_ok (v0 : Value) (v1 : Value) (a b c d : Rat) (w : World) (q0 : RSp w v0 a b) (q1 : RSp w v1 c d) (za : Siz a 400) (zb : Siz b 400) (zc : Siz c 400) (zd : Siz d 400) (hx : cmpQ (maxQ a c) (minQ b d) ≠ 1) :
    Calls Tryz.prog 63 #[v0, v1] w (fun en w' => ∃ v, en = .returned (.tuple #[v, .bool true]) ∧ RSp w' v (maxQ a c) (minQ b d) ∧ Siz (maxQ a c) 400 ∧ Siz (minQ b d) 400 ∧ Below w.heap.size w w') := by
  rcases cmp3 (maxQ a c) (minQ b d) with h1 | h1 | h1
  · skip
    have hC : (mkC [3, 3, 3, 3, 3, 3] [true, true, true, true, true, true] [33, 68] 28 (cl_rmeet_1 a b c d) w).Ok := mkC_ok (oks_cons (clR_ok (by decide) _ _) <| oks_cons (clR_ok (by decide) _ _) <| oks_cons (clR_ok (by decide) _ _) <| oks_cons (clR_ok (by decide) _ _) <| oks_cons (clR_ok (by decide) _ _) <| oks_cons (clR_ok (by decide) _ _) <| oks_nil) rfl rfl
    have hT : ∀ t ∈ t_rmeet_1, t.Valid (mkC [3, 3, 3, 3, 3, 3] [true, true, true, true, true, true] [33, 68] 28 (cl_rmeet_1 a b c d) w) :=
      forall_cons (e_rmaxm (pr rfl) (pr rfl) rfl rfl rfl rfl) <|
      forall_cons (e_rminm (pr rfl) (pr rfl) rfl rfl rfl rfl) <|
      forall_cons (e_rcmp (pr rfl) (pr rfl) rfl h1) <|
      forall_nil
    refine Calls.mono (run_mk hC hT 63 Tryz.f63 [rsp 0 1, rsp 2 3] (.tup [rsp 4 5, vp (.bool true)]) 200 Tryz.func63 rfl rfl rfl (by kernel_rfl) [v0, v1] ⟨v0, _, rfl, (rsp_is rfl rfl).2 ⟨q0, za, zb⟩, ⟨v1, _, rfl, (rsp_is rfl rfl).2 ⟨q1, zc, zd⟩, rfl⟩⟩) ?_
    rintro e w' ⟨v, rfl, ⟨vs, ⟨v1, _, rfl, g1, v2, _, rfl, g2, rfl⟩, rfl⟩, hb⟩; obtain rfl := vp_is.1 g2; obtain ⟨h1, h2, h3⟩ := (rsp_is rfl rfl).1 g1; exact ⟨v1, rfl, h1, h2, h3, hb⟩
  · skip
    have hC : (mkC [3, 3, 3, 3, 3, 3] [true, true, true, true, true, true] [33, 68] 28 (cl_rmeet_2 a b c d) w).Ok := mkC_ok (oks_cons (clR_ok (by decide) _ _) <| oks_cons (clR_ok (by decide) _ _) <| oks_cons (clR_ok (by decide) _ _) <| oks_cons (clR_ok (by decide) _ _) <| oks_cons (clR_ok (by decide) _ _) <| oks_cons (clR_ok (by decide) _ _) <| oks_nil) rfl rfl
    have hT : ∀ t ∈ t_rmeet_2, t.Valid (mkC [3, 3, 3, 3, 3, 3] [true, true, true, true, true, true] [33, 68] 28 (cl_rmeet_2 a b c d) w) :=
      forall_cons (e_rmaxm (pr rfl) (pr rfl) rfl rfl rfl rfl) <|
      forall_cons (e_rminm (pr rfl) (pr rfl) rfl rfl rfl rfl) <|
      forall_cons (e_rcmp (pr rfl) (pr rfl) rfl h1) <|
      forall_nil
    refine Calls.mono (run_mk hC hT 63 Tryz.f63 [rsp 0 1, rsp 2 3] (.tup [rsp 4 5, vp (.bool true)]) 200 Tryz.func63 rfl rfl rfl (by kernel_rfl) [v0, v1] ⟨v0, _, rfl, (rsp_is rfl rfl).2 ⟨q0, za, zb⟩, ⟨v1, _, rfl, (rsp_is rfl rfl).2 ⟨q1, zc, zd⟩, rfl⟩⟩) ?_
    rintro e w' ⟨v, rfl, ⟨vs, ⟨v1, _, rfl, g1, v2, _, rfl, g2, rfl⟩, rfl⟩, hb⟩; obtain rfl := vp_is.1 g2; obtain ⟨h1, h2, h3⟩ := (rsp_is rfl rfl).1 g1; exact ⟨v1, rfl, h1, h2, h3, hb⟩
  · skip
    exact absurd h1 hx
theorem e_rmeet {csz : List Nat} {numc : List Bool} {okT : List Nat} {nt : Nat} {cl : List Cl} {w0 : World} {p1 p2 : Pat} {c1 c2 k1 k2 k3 k4 : Nat} {a b c d : Rat}  (h1 : PRS csz numc okT nt cl w0 p1 a k1 b k2) (h2 : PRS csz numc okT nt cl w0 p2 c k3 d k4) (fk1 : fitr k1 400 = true) (fk2 : fitr k2 400 = true) (fk3 : fitr k3 400 = true) (fk4 : fitr k4 400 = true) (hx : cmpQ (maxQ a c) (minQ b d) ≠ 1) (g1 : cl[c1]? = some (clR (maxQ a c) 400)) (g2 : cl[c2]? = some (clR (minQ b d) 400)) : V csz numc okT nt cl w0 (.call 63) [p1, p2] (.tup [rsp c1 c2, vp (.bool true)]) := by
  refine ⟨enters_of Tryz.func63 (by kernel_rfl) rfl, fun w vs hb hvs => ?_⟩
  obtain ⟨u1, _, rfl, j1, ⟨u2, _, rfl, j2, rfl⟩⟩ := hvs
  have i1 := h1 _ _ j1
  have i2 := h2 _ _ j2
  refine (rmeet_ok u1 u2 _ _ _ _ w i1.1 i2.1 (i1.2.1.le (fitr_le fk1).1) (i1.2.2.le (fitr_le fk2).1) (i2.2.1.le (fitr_le fk3).1) (i2.2.2.le (fitr_le fk4).1) hx).mono ?_
  rintro e w' ⟨v, rfl, q1, q2, q3, hb'⟩
  exact ⟨_, rfl, ⟨_, ⟨_, _, rfl, (rsp_is g1 g2).2 ⟨q1, q2, q3⟩, _, _, rfl, vp_is.2 rfl, rfl⟩, rfl⟩, hb'⟩
noncomputable def cl_rmeet0_1 (a : Rat) (b : Rat) (c : Rat) (d : Rat) : List Cl := [
  clR a 400,
  clR b 400,
  clR c 400,
  clR d 400,
  clR (maxQ a c) 400,
  clR (minQ b d) 400,
  clR ((0 : Int) : Rat) 1]
def t_rmeet0_1 : List Ent := [
  ⟨.call 107, [rq 0, rq 2], (.val (rq 4))⟩,
  ⟨.call 106, [rq 1, rq 3], (.val (rq 5))⟩,
  ⟨.call 32, [rq 4, rq 5], (.val (vp (.int .i64 1)))⟩,
  ⟨.call 16, [vp (.int .i64 0)], (.val (rq 6))⟩]
set_option maxRecDepth 100000 in
theorem rmeet0_ok (v0 : Value) (v1 : Value) (a b c d : Rat) (w : World) (q0 : RSp w v0 a b) (q1 : RSp w v1 c d) (za : Siz a 400) (zb : Siz b 400) (zc : Siz c 400) (zd : Siz d 400) (hx : cmpQ (maxQ a c) (minQ b d) = 1) :
    Calls Tryz.prog 63 #[v0, v1] w (fun en w' => ∃ v, en = .returned (.tuple #[v, .bool false]) ∧ RSp w' v ((0 : Int) : Rat) ((0 : Int) : Rat) ∧ Siz ((0 : Int) : Rat) 1 ∧ Siz ((0 : Int) : Rat) 1 ∧ Below w.heap.size w w') := by
  have hC : (mkC [3, 3, 3, 3, 3, 3, 3] [true, true, true, true, true, true, true] [33, 68] 28 (cl_rmeet0_1 a b c d) w).Ok := mkC_ok (oks_cons (clR_ok (by decide) _ _) <| oks_cons (clR_ok (by decide) _ _) <| oks_cons (clR_ok (by decide) _ _) <| oks_cons (clR_ok (by decide) _ _) <| oks_cons (clR_ok (by decide) _ _) <| oks_cons (clR_ok (by decide) _ _) <| oks_cons (clR_ok (by decide) _ _) <| oks_nil) rfl rfl
  have hT : ∀ t ∈ t_rmeet0_1, t.Valid (mkC [3, 3, 3, 3, 3, 3, 3] [true, true, true, true, true, true, true] [33, 68] 28 (cl_rmeet0_1 a b c d) w) :=
    forall_cons (e_rmaxm (pr rfl) (pr rfl) rfl rfl rfl rfl) <|
    forall_cons (e_rminm (pr rfl) (pr rfl) rfl rfl rfl rfl) <|
    forall_cons (e_rcmp (pr rfl) (pr rfl) rfl hx) <|
    forall_cons (e_rint (by decide) (by decide) rfl rfl) <|
    forall_nil
  refine Calls.mono (run_mk hC hT 63 Tryz.f63 [rsp 0 1, rsp 2 3] (.tup [rsp 6 6, vp (.bool false)]) 200 Tryz.func63 rfl rfl rfl (by kernel_rfl) [v0, v1] ⟨v0, _, rfl, (rsp_is rfl rfl).2 ⟨q0, za, zb⟩, ⟨v1, _, rfl, (rsp_is rfl rfl).2 ⟨q1, zc, zd⟩, rfl⟩⟩) ?_
  rintro e w' ⟨v, rfl, ⟨vs, ⟨v1, _, rfl, g1, v2, _, rfl, g2, rfl⟩, rfl⟩, hb⟩; obtain rfl := vp_is.1 g2; obtain ⟨h1, h2, h3⟩ := (rsp_is rfl rfl).1 g1; exact ⟨v1, rfl, h1, h2, h3, hb⟩
theorem e_rmeet0 {csz : List Nat} {numc : List Bool} {okT : List Nat} {nt : Nat} {cl : List Cl} {w0 : World} {p1 p2 : Pat} {c1 c2 k1 k2 k3 k4 : Nat} {a b c d : Rat}  (h1 : PRS csz numc okT nt cl w0 p1 a k1 b k2) (h2 : PRS csz numc okT nt cl w0 p2 c k3 d k4) (fk1 : fitr k1 400 = true) (fk2 : fitr k2 400 = true) (fk3 : fitr k3 400 = true) (fk4 : fitr k4 400 = true) (hx : cmpQ (maxQ a c) (minQ b d) = 1) (g1 : cl[c1]? = some (clR ((0 : Int) : Rat) 1)) (g2 : cl[c2]? = some (clR ((0 : Int) : Rat) 1)) : V csz numc okT nt cl w0 (.call 63) [p1, p2] (.tup [rsp c1 c2, vp (.bool false)]) := by
  refine ⟨enters_of Tryz.func63 (by kernel_rfl) rfl, fun w vs hb hvs => ?_⟩
  obtain ⟨u1, _, rfl, j1, ⟨u2, _, rfl, j2, rfl⟩⟩ := hvs
  have i1 := h1 _ _ j1
  have i2 := h2 _ _ j2
  refine (rmeet0_ok u1 u2 _ _ _ _ w i1.1 i2.1 (i1.2.1.le (fitr_le fk1).1) (i1.2.2.le (fitr_le fk2).1) (i2.2.1.le (fitr_le fk3).1) (i2.2.2.le (fitr_le fk4).1) hx).mono ?_
  rintro e w' ⟨v, rfl, q1, q2, q3, hb'⟩
  exact ⟨_, rfl, ⟨_, ⟨_, _, rfl, (rsp_is g1 g2).2 ⟨q1, q2, q3⟩, _, _, rfl, vp_is.2 rfl, rfl⟩, rfl⟩, hb'⟩
noncomputable def cl_rquadt_1 (a : Rat) (b : Rat) (c : Rat) (d : Rat) (e : Rat) : List Cl := [
  clR a 400,
  clR b 400,
  clR c 400,
  clR d 400,
  clR e 400,
  clR (((a * (d * d)) + (b * d)) + c) 4862,
  clR (((a * (e * e)) + (b * e)) + c) 4862,
  clR (-(b)) 400,
  clR ((2 : Int) : Rat) 1,
  clR (((2 : Int) : Rat) * a) 401,
  clR ((-(b)) / (((2 : Int) : Rat) * a)) 801,
  clR (((a * (((-(b)) / (((2 : Int) : Rat) * a)) * ((-(b)) / (((2 : Int) : Rat) * a)))) + (b * ((-(b)) / (((2 : Int) : Rat) * a)))) + c) 4862,
  clL [((a * (d * d)) + (b * d)) + c, ((a * (e * e)) + (b * e)) + c, ((a * (((-(b)) / (((2 : Int) : Rat) * a)) * ((-(b)) / (((2 : Int) : Rat) * a)))) + (b * ((-(b)) / (((2 : Int) : Rat) * a)))) + c] 4862,
  clR (lowR (((a * (d * d)) + (b * d)) + c) [((a * (e * e)) + (b * e)) + c, ((a * (((-(b)) / (((2 : Int) : Rat) * a)) * ((-(b)) / (((2 : Int) : Rat) * a)))) + (b * ((-(b)) / (((2 : Int) : Rat) * a)))) + c]) 4862,
  clR (highR (((a * (d * d)) + (b * d)) + c) [((a * (e * e)) + (b * e)) + c, ((a * (((-(b)) / (((2 : Int) : Rat) * a)) * ((-(b)) / (((2 : Int) : Rat) * a)))) + (b * ((-(b)) / (((2 : Int) : Rat) * a)))) + c]) 4862]
def t_rquadt_1 : List Ent := [
  ⟨.call 113, [rq 0, rq 1, rq 2, rq 3], (.val (rq 5))⟩,
  ⟨.call 113, [rq 0, rq 1, rq 2, rq 4], (.val (rq 6))⟩,
  ⟨.call 35, [rq 0], (.val (vp (.bool false)))⟩,
  ⟨.call 38, [rq 1], (.val (rq 7))⟩,
  ⟨.call 16, [vp (.int .i64 2)], (.val (rq 8))⟩,
  ⟨.call 30, [rq 8, rq 0], (.val (rq 9))⟩,
  ⟨.call 36, [rq 7, rq 9], (.val (rq 10))⟩,
  ⟨.call 57, [rsp 3 4, rq 10], (.val (vp (.bool true)))⟩,
  ⟨.call 113, [rq 0, rq 1, rq 2, rq 10], (.val (rq 11))⟩,
  ⟨.blt .append [92, 92] 92, [.slc 33 2 [.cls 5 3, .cls 6 3], .slc 33 1 [.cls 11 3]], (.val (op 12))⟩,
  ⟨.call 104, [op 12], (.val (rsp 13 14))⟩]
set_option maxRecDepth 100000 in
theorem rquadt_ok (v0 : Value) (v1 : Value) (v2 : Value) (v3 : Value) (a b c d e : Rat) (w : World) (q0 : RQ w v0 a) (q1 : RQ w v1 b) (q2 : RQ w v2 c) (q3 : RSp w v3 d e) (za : Siz a 400) (zb : Siz b 400) (zc : Siz c 400) (zd : Siz d 400) (ze : Siz e 400) (hz : decide (a = 0) = false) (hd2 : decide ((((2 : Int) : Rat) * a).num = 0) = false) (hx : hasR d e ((-(b)) / (((2 : Int) : Rat) * a)) = true) :
    Calls Tryz.prog 71 #[v0, v1, v2, v3] w (fun en w' => ∃ v, en = .returned v ∧ RSp w' v (lowR (((a * (d * d)) + (b * d)) + c) [((a * (e * e)) + (b * e)) + c, ((a * (((-(b)) / (((2 : Int) : Rat) * a)) * ((-(b)) / (((2 : Int) : Rat) * a)))) + (b * ((-(b)) / (((2 : Int) : Rat) * a)))) + c]) (highR (((a * (d * d)) + (b * d)) + c) [((a * (e * e)) + (b * e)) + c, ((a * (((-(b)) / (((2 : Int) : Rat) * a)) * ((-(b)) / (((2 : Int) : Rat) * a)))) + (b * ((-(b)) / (((2 : Int) : Rat) * a)))) + c]) ∧ Siz (lowR (((a * (d * d)) + (b * d)) + c) [((a * (e * e)) + (b * e)) + c, ((a * (((-(b)) / (((2 : Int) : Rat) * a)) * ((-(b)) / (((2 : Int) : Rat) * a)))) + (b * ((-(b)) / (((2 : Int) : Rat) * a)))) + c]) 4862 ∧ Siz (highR (((a * (d * d)) + (b * d)) + c) [((a * (e * e)) + (b * e)) + c, ((a * (((-(b)) / (((2 : Int) : Rat) * a)) * ((-(b)) / (((2 : Int) : Rat) * a)))) + (b * ((-(b)) / (((2 : Int) : Rat) * a)))) + c]) 4862 ∧ Below w.heap.size w w') := by
  have hC : (mkC [3, 3, 3, 3, 3, 3, 3, 3, 3, 3, 3, 3, 1, 3, 3] [true, true, true, true, true, true, true, true, true, true, true, true, false, true, true] [33, 68] 46 (cl_rquadt_1 a b c d e) w).Ok := mkC_ok (oks_cons (clR_ok (by decide) _ _) <| oks_cons (clR_ok (by decide) _ _) <| oks_cons (clR_ok (by decide) _ _) <| oks_cons (clR_ok (by decide) _ _) <| oks_cons (clR_ok (by decide) _ _) <| oks_cons (clR_ok (by decide) _ _) <| oks_cons (clR_ok (by decide) _ _) <| oks_cons (clR_ok (by decide) _ _) <| oks_cons (clR_ok (by decide) _ _) <| oks_cons (clR_ok (by decide) _ _) <| oks_cons (clR_ok (by decide) _ _) <| oks_cons (clR_ok (by decide) _ _) <| oks_cons (clL_ok (by decide) _ _ rfl) <| oks_cons (clR_ok (by decide) _ _) <| oks_cons (clR_ok (by decide) _ _) <| oks_nil) rfl rfl
  have hT : ∀ t ∈ t_rquadt_1, t.Valid (mkC [3, 3, 3, 3, 3, 3, 3, 3, 3, 3, 3, 3, 1, 3, 3] [true, true, true, true, true, true, true, true, true, true, true, true, false, true, true] [33, 68] 46 (cl_rquadt_1 a b c d e) w) :=
    forall_cons (e_rvalue (pr rfl) (pr rfl) (pr rfl) (pr rfl) rfl rfl rfl rfl rfl) <|
    forall_cons (e_rvalue (pr rfl) (pr rfl) (pr rfl) (pr rfl) rfl rfl rfl rfl rfl) <|
    forall_cons (e_riszero (pr rfl) hz) <|
    forall_cons (e_rneg (pr rfl) rfl rfl) <|
    forall_cons (e_rint (by decide) (by decide) rfl rfl) <|
    forall_cons (e_rmul (pr rfl) (pr rfl) rfl rfl) <|
    forall_cons (e_rdiv (of_decide_eq_false hd2) (pr rfl) (pr rfl) rfl rfl) <|
    forall_cons (e_rhas (prs rfl rfl) (pr rfl) rfl rfl rfl hx) <|
    forall_cons (e_rvalue (pr rfl) (pr rfl) (pr rfl) (pr rfl) rfl rfl rfl rfl rfl) <|
    forall_cons (e_app (rs := [((a * (d * d)) + (b * d)) + c, ((a * (e * e)) + (b * e)) + c]) (k := 4862) ⟨_, _, _, _, rfl, rfl, rfl, by decide, ⟨_, _, _, _, rfl, rfl, rfl, by decide, rfl⟩⟩ rfl rfl rfl (by decide) rfl) <|
    forall_cons (e_ends (plC rfl) rfl rfl rfl rfl rfl rfl) <|
    forall_nil
  refine Calls.mono (run_mk hC hT 71 Tryz.f71 [rq 0, rq 1, rq 2, rsp 3 4] (.val (rsp 13 14)) 200 Tryz.func71 rfl rfl rfl (by kernel_rfl) [v0, v1, v2, v3] ⟨v0, _, rfl, (rq_is rfl).2 ⟨q0, za⟩, ⟨v1, _, rfl, (rq_is rfl).2 ⟨q1, zb⟩, ⟨v2, _, rfl, (rq_is rfl).2 ⟨q2, zc⟩, ⟨v3, _, rfl, (rsp_is rfl rfl).2 ⟨q3, zd, ze⟩, rfl⟩⟩⟩⟩) ?_
  rintro e w' ⟨v, rfl, hv, hb⟩; obtain ⟨h1, h2, h3⟩ := (rsp_is rfl rfl).1 hv; exact ⟨v, rfl, h1, h2, h3, hb⟩
theorem e_rquadt {csz : List Nat} {numc : List Bool} {okT : List Nat} {nt : Nat} {cl : List Cl} {w0 : World} {p1 p2 p3 p4 : Pat} {c1 c2 k1 k2 k3 k4 k5 : Nat} {a b c d e : Rat}  (h1 : PR csz numc okT nt cl w0 p1 a k1) (h2 : PR csz numc okT nt cl w0 p2 b k2) (h3 : PR csz numc okT nt cl w0 p3 c k3) (h4 : PRS csz numc okT nt cl w0 p4 d k4 e k5) (fk1 : fitr k1 400 = true) (fk2 : fitr k2 400 = true) (fk3 : fitr k3 400 = true) (fk4 : fitr k4 400 = true) (fk5 : fitr k5 400 = true) (hz : decide (a = 0) = false) (hd2 : decide ((((2 : Int) : Rat) * a).num = 0) = false) (hx : hasR d e ((-(b)) / (((2 : Int) : Rat) * a)) = true) (g1 : cl[c1]? = some (clR (lowR (((a * (d * d)) + (b * d)) + c) [((a * (e * e)) + (b * e)) + c, ((a * (((-(b)) / (((2 : Int) : Rat) * a)) * ((-(b)) / (((2 : Int) : Rat) * a)))) + (b * ((-(b)) / (((2 : Int) : Rat) * a)))) + c]) 4862)) (g2 : cl[c2]? = some (clR (highR (((a * (d * d)) + (b * d)) + c) [((a * (e * e)) + (b * e)) + c, ((a * (((-(b)) / (((2 : Int) : Rat) * a)) * ((-(b)) / (((2 : Int) : Rat) * a)))) + (b * ((-(b)) / (((2 : Int) : Rat) * a)))) + c]) 4862)) : V csz numc okT nt cl w0 (.call 71) [p1, p2, p3, p4] (.val (rsp c1 c2)) := by
  refine ⟨enters_of Tryz.func71 (by kernel_rfl) rfl, fun w vs hb hvs => ?_⟩
  obtain ⟨u1, _, rfl, j1, ⟨u2, _, rfl, j2, ⟨u3, _, rfl, j3, ⟨u4, _, rfl, j4, rfl⟩⟩⟩⟩ := hvs
  have i1 := h1 _ _ j1
  have i2 := h2 _ _ j2
  have i3 := h3 _ _ j3
  have i4 := h4 _ _ j4
  refine (rquadt_ok u1 u2 u3 u4 _ _ _ _ _ w i1.1 i2.1 i3.1 i4.1 (i1.2.le (fitr_le fk1).1) (i2.2.le (fitr_le fk2).1) (i3.2.le (fitr_le fk3).1) (i4.2.1.le (fitr_le fk4).1) (i4.2.2.le (fitr_le fk5).1) hz hd2 hx).mono ?_
  rintro e w' ⟨v, rfl, q1, q2, q3, hb'⟩
  exact ⟨v, rfl, (rsp_is g1 g2).2 ⟨q1, q2, q3⟩, hb'⟩
noncomputable def cl_rquadn_1 (a : Rat) (b : Rat) (c : Rat) (d : Rat) (e : Rat) : List Cl := [
  clR a 400,
  clR b 400,
  clR c 400,
  clR d 400,
  clR e 400,
  clR (((a * (d * d)) + (b * d)) + c) 4862,
  clR (((a * (e * e)) + (b * e)) + c) 4862,
  clR (-(b)) 400,
  clR ((2 : Int) : Rat) 1,
  clR (((2 : Int) : Rat) * a) 401,
  clR ((-(b)) / (((2 : Int) : Rat) * a)) 801,
  clR (lowR (((a * (d * d)) + (b * d)) + c) [((a * (e * e)) + (b * e)) + c]) 4862,
  clR (highR (((a * (d * d)) + (b * d)) + c) [((a * (e * e)) + (b * e)) + c]) 4862]
def t_rquadn_1 : List Ent := [
  ⟨.call 113, [rq 0, rq 1, rq 2, rq 3], (.val (rq 5))⟩,
  ⟨.call 113, [rq 0, rq 1, rq 2, rq 4], (.val (rq 6))⟩,
  ⟨.call 35, [rq 0], (.val (vp (.bool false)))⟩,
  ⟨.call 38, [rq 1], (.val (rq 7))⟩,
  ⟨.call 16, [vp (.int .i64 2)], (.val (rq 8))⟩,
  ⟨.call 30, [rq 8, rq 0], (.val (rq 9))⟩,
  ⟨.call 36, [rq 7, rq 9], (.val (rq 10))⟩,
  ⟨.call 57, [rsp 3 4, rq 10], (.val (vp (.bool false)))⟩,
  ⟨.call 104, [.slc 33 2 [.cls 5 3, .cls 6 3]], (.val (rsp 11 12))⟩]
set_option maxRecDepth 100000 in
theorem rquadn_ok (v0 : Value) (v1 : Value) (v2 : Value) (v3 : Value) (a b c d e : Rat) (w : World) (q0 : RQ w v0 a) (q1 : RQ w v1 b) (q2 : RQ w v2 c) (q3 : RSp w v3 d e) (za : Siz a 400) (zb : Siz b 400) (zc : Siz c 400) (zd : Siz d 400) (ze : Siz e 400) (hz : decide (a = 0) = false) (hd2 : decide ((((2 : Int) : Rat) * a).num = 0) = false) (hx : hasR d e ((-(b)) / (((2 : Int) : Rat) * a)) = false) :
    Calls Tryz.prog 71 #[v0, v1, v2, v3] w (fun en w' => ∃ v, en = .returned v ∧ RSp w' v (lowR (((a * (d * d)) + (b * d)) + c) [((a * (e * e)) + (b * e)) + c]) (highR (((a * (d * d)) + (b * d)) + c) [((a * (e * e)) + (b * e)) + c]) ∧ Siz (lowR (((a * (d * d)) + (b * d)) + c) [((a * (e * e)) + (b * e)) + c]) 4862 ∧ Siz (highR (((a * (d * d)) + (b * d)) + c) [((a * (e * e)) + (b * e)) + c]) 4862 ∧ Below w.heap.size w w') := by
  have hC : (mkC [3, 3, 3, 3, 3, 3, 3, 3, 3, 3, 3, 3, 3] [true, true, true, true, true, true, true, true, true, true, true, true, true] [33, 68] 46 (cl_rquadn_1 a b c d e) w).Ok := mkC_ok (oks_cons (clR_ok (by decide) _ _) <| oks_cons (clR_ok (by decide) _ _) <| oks_cons (clR_ok (by decide) _ _) <| oks_cons (clR_ok (by decide) _ _) <| oks_cons (clR_ok (by decide) _ _) <| oks_cons (clR_ok (by decide) _ _) <| oks_cons (clR_ok (by decide) _ _) <| oks_cons (clR_ok (by decide) _ _) <| oks_cons (clR_ok (by decide) _ _) <| oks_cons (clR_ok (by decide) _ _) <| oks_cons (clR_ok (by decide) _ _) <| oks_cons (clR_ok (by decide) _ _) <| oks_cons (clR_ok (by decide) _ _) <| oks_nil) rfl rfl
  have hT : ∀ t ∈ t_rquadn_1, t.Valid (mkC [3, 3, 3, 3, 3, 3, 3, 3, 3, 3, 3, 3, 3] [true, true, true, true, true, true, true, true, true, true, true, true, true] [33, 68] 46 (cl_rquadn_1 a b c d e) w) :=
    forall_cons (e_rvalue (pr rfl) (pr rfl) (pr rfl) (pr rfl) rfl rfl rfl rfl rfl) <|
    forall_cons (e_rvalue (pr rfl) (pr rfl) (pr rfl) (pr rfl) rfl rfl rfl rfl rfl) <|
    forall_cons (e_riszero (pr rfl) hz) <|
    forall_cons (e_rneg (pr rfl) rfl rfl) <|
    forall_cons (e_rint (by decide) (by decide) rfl rfl) <|
    forall_cons (e_rmul (pr rfl) (pr rfl) rfl rfl) <|
    forall_cons (e_rdiv (of_decide_eq_false hd2) (pr rfl) (pr rfl) rfl rfl) <|
    forall_cons (e_rhas (prs rfl rfl) (pr rfl) rfl rfl rfl hx) <|
    forall_cons (e_ends (plS (rs := [((a * (d * d)) + (b * d)) + c, ((a * (e * e)) + (b * e)) + c]) (k := 4862) ⟨_, _, _, _, rfl, rfl, rfl, by decide, ⟨_, _, _, _, rfl, rfl, rfl, by decide, rfl⟩⟩ rfl) rfl rfl rfl rfl rfl rfl) <|
    forall_nil
  refine Calls.mono (run_mk hC hT 71 Tryz.f71 [rq 0, rq 1, rq 2, rsp 3 4] (.val (rsp 11 12)) 200 Tryz.func71 rfl rfl rfl (by kernel_rfl) [v0, v1, v2, v3] ⟨v0, _, rfl, (rq_is rfl).2 ⟨q0, za⟩, ⟨v1, _, rfl, (rq_is rfl).2 ⟨q1, zb⟩, ⟨v2, _, rfl, (rq_is rfl).2 ⟨q2, zc⟩, ⟨v3, _, rfl, (rsp_is rfl rfl).2 ⟨q3, zd, ze⟩, rfl⟩⟩⟩⟩) ?_
  rintro e w' ⟨v, rfl, hv, hb⟩; obtain ⟨h1, h2, h3⟩ := (rsp_is rfl rfl).1 hv; exact ⟨v, rfl, h1, h2, h3, hb⟩
theorem e_rquadn {csz : List Nat} {numc : List Bool} {okT : List Nat} {nt : Nat} {cl : List Cl} {w0 : World} {p1 p2 p3 p4 : Pat} {c1 c2 k1 k2 k3 k4 k5 : Nat} {a b c d e : Rat}  (h1 : PR csz numc okT nt cl w0 p1 a k1) (h2 : PR csz numc okT nt cl w0 p2 b k2) (h3 : PR csz numc okT nt cl w0 p3 c k3) (h4 : PRS csz numc okT nt cl w0 p4 d k4 e k5) (fk1 : fitr k1 400 = true) (fk2 : fitr k2 400 = true) (fk3 : fitr k3 400 = true) (fk4 : fitr k4 400 = true) (fk5 : fitr k5 400 = true) (hz : decide (a = 0) = false) (hd2 : decide ((((2 : Int) : Rat) * a).num = 0) = false) (hx : hasR d e ((-(b)) / (((2 : Int) : Rat) * a)) = false) (g1 : cl[c1]? = some (clR (lowR (((a * (d * d)) + (b * d)) + c) [((a * (e * e)) + (b * e)) + c]) 4862)) (g2 : cl[c2]? = some (clR (highR (((a * (d * d)) + (b * d)) + c) [((a * (e * e)) + (b * e)) + c]) 4862)) : V csz numc okT nt cl w0 (.call 71) [p1, p2, p3, p4] (.val (rsp c1 c2)) := by
  refine ⟨enters_of Tryz.func71 (by kernel_rfl) rfl, fun w vs hb hvs => ?_⟩
  obtain ⟨u1, _, rfl, j1, ⟨u2, _, rfl, j2, ⟨u3, _, rfl, j3, ⟨u4, _, rfl, j4, rfl⟩⟩⟩⟩ := hvs
  have i1 := h1 _ _ j1
  have i2 := h2 _ _ j2
  have i3 := h3 _ _ j3
  have i4 := h4 _ _ j4
  refine (rquadn_ok u1 u2 u3 u4 _ _ _ _ _ w i1.1 i2.1 i3.1 i4.1 (i1.2.le (fitr_le fk1).1) (i2.2.le (fitr_le fk2).1) (i3.2.le (fitr_le fk3).1) (i4.2.1.le (fitr_le fk4).1) (i4.2.2.le (fitr_le fk5).1) hz hd2 hx).mono ?_
  rintro e w' ⟨v, rfl, q1, q2, q3, hb'⟩
  exact ⟨v, rfl, (rsp_is g1 g2).2 ⟨q1, q2, q3⟩, hb'⟩
theorem one_ne0 : decide (((1 : Int) : Rat) = 0) = false := by decide
theorem one_ne2 : decide ((((2 : Int) : Rat) * ((1 : Int) : Rat)).num = 0) = false := by decide +kernel
noncomputable def cl_rsquare_1 (a : Rat) (b : Rat) : List Cl := [
  clR a 400,
  clR b 400,
  clR ((1 : Int) : Rat) 1,
  clR ((0 : Int) : Rat) 1,
  clR (lowR (((((1 : Int) : Rat) * (a * a)) + (((0 : Int) : Rat) * a)) + ((0 : Int) : Rat)) [((((1 : Int) : Rat) * (b * b)) + (((0 : Int) : Rat) * b)) + ((0 : Int) : Rat), ((((1 : Int) : Rat) * (((-((0 : Int) : Rat)) / (((2 : Int) : Rat) * ((1 : Int) : Rat))) * ((-((0 : Int) : Rat)) / (((2 : Int) : Rat) * ((1 : Int) : Rat))))) + (((0 : Int) : Rat) * ((-((0 : Int) : Rat)) / (((2 : Int) : Rat) * ((1 : Int) : Rat))))) + ((0 : Int) : Rat)]) 4862,
  clR (highR (((((1 : Int) : Rat) * (a * a)) + (((0 : Int) : Rat) * a)) + ((0 : Int) : Rat)) [((((1 : Int) : Rat) * (b * b)) + (((0 : Int) : Rat) * b)) + ((0 : Int) : Rat), ((((1 : Int) : Rat) * (((-((0 : Int) : Rat)) / (((2 : Int) : Rat) * ((1 : Int) : Rat))) * ((-((0 : Int) : Rat)) / (((2 : Int) : Rat) * ((1 : Int) : Rat))))) + (((0 : Int) : Rat) * ((-((0 : Int) : Rat)) / (((2 : Int) : Rat) * ((1 : Int) : Rat))))) + ((0 : Int) : Rat)]) 4862]
def t_rsquare_1 : List Ent := [
  ⟨.call 16, [vp (.int .i64 1)], (.val (rq 2))⟩,
  ⟨.call 16, [vp (.int .i64 0)], (.val (rq 3))⟩,
  ⟨.call 71, [rq 2, rq 3, rq 3, rsp 0 1], (.val (rsp 4 5))⟩]
set_option maxRecDepth 100000 in
theorem rsquare_ok (v0 : Value) (a b : Rat) (w : World) (q0 : RSp w v0 a b) (za : Siz a 400) (zb : Siz b 400) (hx : hasR a b ((-((0 : Int) : Rat)) / (((2 : Int) : Rat) * ((1 : Int) : Rat))) = true) :
    Calls Tryz.prog 59 #[v0] w (fun en w' => ∃ v, en = .returned v ∧ RSp w' v (lowR (((((1 : Int) : Rat) * (a * a)) + (((0 : Int) : Rat) * a)) + ((0 : Int) : Rat)) [((((1 : Int) : Rat) * (b * b)) + (((0 : Int) : Rat) * b)) + ((0 : Int) : Rat), ((((1 : Int) : Rat) * (((-((0 : Int) : Rat)) / (((2 : Int) : Rat) * ((1 : Int) : Rat))) * ((-((0 : Int) : Rat)) / (((2 : Int) : Rat) * ((1 : Int) : Rat))))) + (((0 : Int) : Rat) * ((-((0 : Int) : Rat)) / (((2 : Int) : Rat) * ((1 : Int) : Rat))))) + ((0 : Int) : Rat)]) (highR (((((1 : Int) : Rat) * (a * a)) + (((0 : Int) : Rat) * a)) + ((0 : Int) : Rat)) [((((1 : Int) : Rat) * (b * b)) + (((0 : Int) : Rat) * b)) + ((0 : Int) : Rat), ((((1 : Int) : Rat) * (((-((0 : Int) : Rat)) / (((2 : Int) : Rat) * ((1 : Int) : Rat))) * ((-((0 : Int) : Rat)) / (((2 : Int) : Rat) * ((1 : Int) : Rat))))) + (((0 : Int) : Rat) * ((-((0 : Int) : Rat)) / (((2 : Int) : Rat) * ((1 : Int) : Rat))))) + ((0 : Int) : Rat)]) ∧ Siz (lowR (((((1 : Int) : Rat) * (a * a)) + (((0 : Int) : Rat) * a)) + ((0 : Int) : Rat)) [((((1 : Int) : Rat) * (b * b)) + (((0 : Int) : Rat) * b)) + ((0 : Int) : Rat), ((((1 : Int) : Rat) * (((-((0 : Int) : Rat)) / (((2 : Int) : Rat) * ((1 : Int) : Rat))) * ((-((0 : Int) : Rat)) / (((2 : Int) : Rat) * ((1 : Int) : Rat))))) + (((0 : Int) : Rat) * ((-((0 : Int) : Rat)) / (((2 : Int) : Rat) * ((1 : Int) : Rat))))) + ((0 : Int) : Rat)]) 4862 ∧ Siz (highR (((((1 : Int) : Rat) * (a * a)) + (((0 : Int) : Rat) * a)) + ((0 : Int) : Rat)) [((((1 : Int) : Rat) * (b * b)) + (((0 : Int) : Rat) * b)) + ((0 : Int) : Rat), ((((1 : Int) : Rat) * (((-((0 : Int) : Rat)) / (((2 : Int) : Rat) * ((1 : Int) : Rat))) * ((-((0 : Int) : Rat)) / (((2 : Int) : Rat) * ((1 : Int) : Rat))))) + (((0 : Int) : Rat) * ((-((0 : Int) : Rat)) / (((2 : Int) : Rat) * ((1 : Int) : Rat))))) + ((0 : Int) : Rat)]) 4862 ∧ Below w.heap.size w w') := by
  have hC : (mkC [3, 3, 3, 3, 3, 3] [true, true, true, true, true, true] [68] 8 (cl_rsquare_1 a b) w).Ok := mkC_ok (oks_cons (clR_ok (by decide) _ _) <| oks_cons (clR_ok (by decide) _ _) <| oks_cons (clR_ok (by decide) _ _) <| oks_cons (clR_ok (by decide) _ _) <| oks_cons (clR_ok (by decide) _ _) <| oks_cons (clR_ok (by decide) _ _) <| oks_nil) rfl rfl
  have hT : ∀ t ∈ t_rsquare_1, t.Valid (mkC [3, 3, 3, 3, 3, 3] [true, true, true, true, true, true] [68] 8 (cl_rsquare_1 a b) w) :=
    forall_cons (e_rint (by decide) (by decide) rfl rfl) <|
    forall_cons (e_rint (by decide) (by decide) rfl rfl) <|
    forall_cons (e_rquadt (pr rfl) (pr rfl) (pr rfl) (prs rfl rfl) rfl rfl rfl rfl rfl one_ne0 one_ne2 hx rfl rfl) <|
    forall_nil
  refine Calls.mono (run_mk hC hT 59 Tryz.f59 [rsp 0 1] (.val (rsp 4 5)) 200 Tryz.func59 rfl rfl rfl (by kernel_rfl) [v0] ⟨v0, _, rfl, (rsp_is rfl rfl).2 ⟨q0, za, zb⟩, rfl⟩) ?_
  rintro e w' ⟨v, rfl, hv, hb⟩; obtain ⟨h1, h2, h3⟩ := (rsp_is rfl rfl).1 hv; exact ⟨v, rfl, h1, h2, h3, hb⟩
theorem e_rsquare {csz : List Nat} {numc : List Bool} {okT : List Nat} {nt : Nat} {cl : List Cl} {w0 : World} {p1 : Pat} {c1 c2 k1 k2 : Nat} {a b : Rat}  (h1 : PRS csz numc okT nt cl w0 p1 a k1 b k2) (fk1 : fitr k1 400 = true) (fk2 : fitr k2 400 = true) (hx : hasR a b ((-((0 : Int) : Rat)) / (((2 : Int) : Rat) * ((1 : Int) : Rat))) = true) (g1 : cl[c1]? = some (clR (lowR (((((1 : Int) : Rat) * (a * a)) + (((0 : Int) : Rat) * a)) + ((0 : Int) : Rat)) [((((1 : Int) : Rat) * (b * b)) + (((0 : Int) : Rat) * b)) + ((0 : Int) : Rat), ((((1 : Int) : Rat) * (((-((0 : Int) : Rat)) / (((2 : Int) : Rat) * ((1 : Int) : Rat))) * ((-((0 : Int) : Rat)) / (((2 : Int) : Rat) * ((1 : Int) : Rat))))) + (((0 : Int) : Rat) * ((-((0 : Int) : Rat)) / (((2 : Int) : Rat) * ((1 : Int) : Rat))))) + ((0 : Int) : Rat)]) 4862)) (g2 : cl[c2]? = some (clR (highR (((((1 : Int) : Rat) * (a * a)) + (((0 : Int) : Rat) * a)) + ((0 : Int) : Rat)) [((((1 : Int) : Rat) * (b * b)) + (((0 : Int) : Rat) * b)) + ((0 : Int) : Rat), ((((1 : Int) : Rat) * (((-((0 : Int) : Rat)) / (((2 : Int) : Rat) * ((1 : Int) : Rat))) * ((-((0 : Int) : Rat)) / (((2 : Int) : Rat) * ((1 : Int) : Rat))))) + (((0 : Int) : Rat) * ((-((0 : Int) : Rat)) / (((2 : Int) : Rat) * ((1 : Int) : Rat))))) + ((0 : Int) : Rat)]) 4862)) : V csz numc okT nt cl w0 (.call 59) [p1] (.val (rsp c1 c2)) := by
  refine ⟨enters_of Tryz.func59 (by kernel_rfl) rfl, fun w vs hb hvs => ?_⟩
  obtain ⟨u1, _, rfl, j1, rfl⟩ := hvs
  have i1 := h1 _ _ j1
  refine (rsquare_ok u1 _ _ w i1.1 (i1.2.1.le (fitr_le fk1).1) (i1.2.2.le (fitr_le fk2).1) hx).mono ?_
  rintro e w' ⟨v, rfl, q1, q2, q3, hb'⟩
  exact ⟨v, rfl, (rsp_is g1 g2).2 ⟨q1, q2, q3⟩, hb'⟩
noncomputable def cl_rsquare0_1 (a : Rat) (b : Rat) : List Cl := [
  clR a 400,
  clR b 400,
  clR ((1 : Int) : Rat) 1,
  clR ((0 : Int) : Rat) 1,
  clR (lowR (((((1 : Int) : Rat) * (a * a)) + (((0 : Int) : Rat) * a)) + ((0 : Int) : Rat)) [((((1 : Int) : Rat) * (b * b)) + (((0 : Int) : Rat) * b)) + ((0 : Int) : Rat)]) 4862,
  clR (highR (((((1 : Int) : Rat) * (a * a)) + (((0 : Int) : Rat) * a)) + ((0 : Int) : Rat)) [((((1 : Int) : Rat) * (b * b)) + (((0 : Int) : Rat) * b)) + ((0 : Int) : Rat)]) 4862]
def t_rsquare0_1 : List Ent := [
  ⟨.call 16, [vp (.int .i64 1)], (.val (rq 2))⟩,
  ⟨.call 16, [vp (.int .i64 0)], (.val (rq 3))⟩,
  ⟨.call 71, [rq 2, rq 3, rq 3, rsp 0 1], (.val (rsp 4 5))⟩]
set_option maxRecDepth 100000 in
theorem rsquare0_ok (v0 : Value) (a b : Rat) (w : World) (q0 : RSp w v0 a b) (za : Siz a 400) (zb : Siz b 400) (hx : hasR a b ((-((0 : Int) : Rat)) / (((2 : Int) : Rat) * ((1 : Int) : Rat))) = false) :
    Calls Tryz.prog 59 #[v0] w (fun en w' => ∃ v, en = .returned v ∧ RSp w' v (lowR (((((1 : Int) : Rat) * (a * a)) + (((0 : Int) : Rat) * a)) + ((0 : Int) : Rat)) [((((1 : Int) : Rat) * (b * b)) + (((0 : Int) : Rat) * b)) + ((0 : Int) : Rat)]) (highR (((((1 : Int) : Rat) * (a * a)) + (((0 : Int) : Rat) * a)) + ((0 : Int) : Rat)) [((((1 : Int) : Rat) * (b * b)) + (((0 : Int) : Rat) * b)) + ((0 : Int) : Rat)]) ∧ Siz (lowR (((((1 : Int) : Rat) * (a * a)) + (((0 : Int) : Rat) * a)) + ((0 : Int) : Rat)) [((((1 : Int) : Rat) * (b * b)) + (((0 : Int) : Rat) * b)) + ((0 : Int) : Rat)]) 4862 ∧ Siz (highR (((((1 : Int) : Rat) * (a * a)) + (((0 : Int) : Rat) * a)) + ((0 : Int) : Rat)) [((((1 : Int) : Rat) * (b * b)) + (((0 : Int) : Rat) * b)) + ((0 : Int) : Rat)]) 4862 ∧ Below w.heap.size w w') := by
  have hC : (mkC [3, 3, 3, 3, 3, 3] [true, true, true, true, true, true] [68] 8 (cl_rsquare0_1 a b) w).Ok := mkC_ok (oks_cons (clR_ok (by decide) _ _) <| oks_cons (clR_ok (by decide) _ _) <| oks_cons (clR_ok (by decide) _ _) <| oks_cons (clR_ok (by decide) _ _) <| oks_cons (clR_ok (by decide) _ _) <| oks_cons (clR_ok (by decide) _ _) <| oks_nil) rfl rfl
  have hT : ∀ t ∈ t_rsquare0_1, t.Valid (mkC [3, 3, 3, 3, 3, 3] [true, true, true, true, true, true] [68] 8 (cl_rsquare0_1 a b) w) :=
    forall_cons (e_rint (by decide) (by decide) rfl rfl) <|
    forall_cons (e_rint (by decide) (by decide) rfl rfl) <|
    forall_cons (e_rquadn (pr rfl) (pr rfl) (pr rfl) (prs rfl rfl) rfl rfl rfl rfl rfl one_ne0 one_ne2 hx rfl rfl) <|
    forall_nil
  refine Calls.mono (run_mk hC hT 59 Tryz.f59 [rsp 0 1] (.val (rsp 4 5)) 200 Tryz.func59 rfl rfl rfl (by kernel_rfl) [v0] ⟨v0, _, rfl, (rsp_is rfl rfl).2 ⟨q0, za, zb⟩, rfl⟩) ?_
  rintro e w' ⟨v, rfl, hv, hb⟩; obtain ⟨h1, h2, h3⟩ := (rsp_is rfl rfl).1 hv; exact ⟨v, rfl, h1, h2, h3, hb⟩
theorem e_rsquare0 {csz : List Nat} {numc : List Bool} {okT : List Nat} {nt : Nat} {cl : List Cl} {w0 : World} {p1 : Pat} {c1 c2 k1 k2 : Nat} {a b : Rat}  (h1 : PRS csz numc okT nt cl w0 p1 a k1 b k2) (fk1 : fitr k1 400 = true) (fk2 : fitr k2 400 = true) (hx : hasR a b ((-((0 : Int) : Rat)) / (((2 : Int) : Rat) * ((1 : Int) : Rat))) = false) (g1 : cl[c1]? = some (clR (lowR (((((1 : Int) : Rat) * (a * a)) + (((0 : Int) : Rat) * a)) + ((0 : Int) : Rat)) [((((1 : Int) : Rat) * (b * b)) + (((0 : Int) : Rat) * b)) + ((0 : Int) : Rat)]) 4862)) (g2 : cl[c2]? = some (clR (highR (((((1 : Int) : Rat) * (a * a)) + (((0 : Int) : Rat) * a)) + ((0 : Int) : Rat)) [((((1 : Int) : Rat) * (b * b)) + (((0 : Int) : Rat) * b)) + ((0 : Int) : Rat)]) 4862)) : V csz numc okT nt cl w0 (.call 59) [p1] (.val (rsp c1 c2)) := by
  refine ⟨enters_of Tryz.func59 (by kernel_rfl) rfl, fun w vs hb hvs => ?_⟩
  obtain ⟨u1, _, rfl, j1, rfl⟩ := hvs
  have i1 := h1 _ _ j1
  refine (rsquare0_ok u1 _ _ w i1.1 (i1.2.1.le (fitr_le fk1).1) (i1.2.2.le (fitr_le fk2).1) hx).mono ?_
  rintro e w' ⟨v, rfl, q1, q2, q3, hb'⟩
  exact ⟨v, rfl, (rsp_is g1 g2).2 ⟨q1, q2, q3⟩, hb'⟩
end Sym
open Go Go.RowKit Go.Proofs Lim
namespace Sym
theorem meet_post {csz : List Nat} {numc : List Bool} {okT : List Nat} {nt : Nat} {cl : List Cl} {w0 : World} {w w' : World} {v : Value} {c5 c6 k5 k6 : Nat} {lo hi : Rat} {x : Value} (hv : RPat.is (mkC csz numc okT nt cl w0) w' (.tup [sp c5 c6, vp x]) v) (hb : Below w.heap.size w w')
    (h5 : cl[c5]? = some (clQ lo k5)) (h6 : cl[c6]? = some (clQ hi k6)) : ∃ v', Ending.returned v = .returned (.tuple #[v', x]) ∧ IsS w' v' lo hi ∧ Below w.heap.size w w' := by
  obtain ⟨vs, ⟨v1, _, rfl, h1, v2, _, rfl, h2, rfl⟩, rfl⟩ := hv
  obtain rfl := vp_is.1 h2
  exact ⟨v1, rfl, ((sp_is h5 h6).1 h1).1, hb⟩
def zs : Pat := .agg [.lit (.bool false), .lit (.int .u64 0), .lit (.int .u64 0), .lit (.pointer none), .lit (.bool false), .lit (.int .u64 0), .lit (.int .u64 0), .lit (.pointer none)]
theorem zs_is {C : Ctx} {w : World} {v : Value} (h : zs.is C w v) : v = zspan := by
  obtain ⟨vs, ⟨_, _, rfl, rfl, _, _, rfl, rfl, _, _, rfl, rfl, _, _, rfl, rfl, _, _, rfl, rfl, _, _, rfl, rfl, _, _, rfl, rfl, _, _, rfl, rfl, rfl⟩, rfl⟩ := h
  rfl
theorem meet_post0 {C : Ctx} {w w' : World} {v : Value} {x : Value} (hv : RPat.is C w' (.tup [zs, vp x]) v) (hb : Below w.heap.size w w') : ∃ v', Ending.returned v = .returned (.tuple #[v', x]) ∧ IsS w' v' 0 0 ∧ Below w.heap.size w w' := by
  obtain ⟨vs, ⟨v1, _, rfl, h1, v2, _, rfl, h2, rfl⟩, rfl⟩ := hv
  obtain rfl := vp_is.1 h2
  obtain rfl := zs_is h1
  exact ⟨_, rfl, zspan_is _, hb⟩
noncomputable def cl_meet_1 (a : Rat) (b : Rat) (c : Rat) (d : Rat) : List Cl := [
  clQ (a) 10000,
  clQ (b) 10000,
  clQ (c) 10000,
  clQ (d) 10000,
  clQ (lowOf (a) [b]) 20000,
  clQ (highOf (a) [b]) 20000,
  clQ (lowOf (c) [d]) 20000,
  clQ (highOf (c) [d]) 20000,
  clQ (lowOf (lowOf (a) [b]) [lowOf (c) [d]]) 40000,
  clQ (highOf (lowOf (a) [b]) [lowOf (c) [d]]) 40000,
  clQ (lowOf (highOf (a) [b]) [highOf (c) [d]]) 40000,
  clQ (highOf (highOf (a) [b]) [highOf (c) [d]]) 40000]
def t_meet_1 : List Ent := [
  ⟨.call 108, [sp 0 1], (.val (sp 4 5))⟩,
  ⟨.call 108, [sp 2 3], (.val (sp 6 7))⟩,
  ⟨.call 105, [qp 4, .slc 26 1 [.cls 6 4]], (.val (sp 8 9))⟩,
  ⟨.call 105, [qp 5, .slc 26 1 [.cls 7 4]], (.val (sp 10 11))⟩,
  ⟨.call 31, [qp 9, qp 10], (.val (vp (.int .i64 (-1))))⟩]
noncomputable def cl_meet_2 (a : Rat) (b : Rat) (c : Rat) (d : Rat) : List Cl := [
  clQ (a) 10000,
  clQ (b) 10000,
  clQ (c) 10000,
  clQ (d) 10000,
  clQ (lowOf (a) [b]) 20000,
  clQ (highOf (a) [b]) 20000,
  clQ (lowOf (c) [d]) 20000,
  clQ (highOf (c) [d]) 20000,
  clQ (lowOf (lowOf (a) [b]) [lowOf (c) [d]]) 40000,
  clQ (highOf (lowOf (a) [b]) [lowOf (c) [d]]) 40000,
  clQ (lowOf (highOf (a) [b]) [highOf (c) [d]]) 40000,
  clQ (highOf (highOf (a) [b]) [highOf (c) [d]]) 40000]
def t_meet_2 : List Ent := [
  ⟨.call 108, [sp 0 1], (.val (sp 4 5))⟩,
  ⟨.call 108, [sp 2 3], (.val (sp 6 7))⟩,
  ⟨.call 105, [qp 4, .slc 26 1 [.cls 6 4]], (.val (sp 8 9))⟩,
  ⟨.call 105, [qp 5, .slc 26 1 [.cls 7 4]], (.val (sp 10 11))⟩,
  ⟨.call 31, [qp 9, qp 10], (.val (vp (.int .i64 0)))⟩]
set_option maxRecDepth 100000 in
theorem meet_ok (v1 v2 : Value) (a b c d : Rat) (w : World) (hG : Gr w) (q1 : IsS w v1 a b) (q2 : IsS w v2 c d) (z1 : Siz a 10000) (z2 : Siz b 10000) (z3 : Siz c 10000) (z4 : Siz d 10000) (hx : cmpQ (highOf (lowOf a [b]) [lowOf c [d]]) (lowOf (highOf a [b]) [highOf c [d]]) ≠ 1) :
    Calls Tryz.prog 62 #[v1, v2] w (fun e w' => ∃ v, e = .returned (.tuple #[v, .bool true]) ∧ IsS w' v (highOf (lowOf a [b]) [lowOf c [d]]) (lowOf (highOf a [b]) [highOf c [d]]) ∧ Below w.heap.size w w') := by
  rcases cmp3 (highOf (lowOf (a) [b]) [lowOf (c) [d]]) (lowOf (highOf (a) [b]) [highOf (c) [d]]) with h1 | h1 | h1
  · skip
    have hC : (mkC [4, 4, 4, 4, 4, 4, 4, 4, 4, 4, 4, 4] [true, true, true, true, true, true, true, true, true, true, true, true] [26, 66, 64, 104] 34 (cl_meet_1 a b c d) w).Ok := mkC_ok (oks_cons (clQ_ok (by decide) _ _) <| oks_cons (clQ_ok (by decide) _ _) <| oks_cons (clQ_ok (by decide) _ _) <| oks_cons (clQ_ok (by decide) _ _) <| oks_cons (clQ_ok (by decide) _ _) <| oks_cons (clQ_ok (by decide) _ _) <| oks_cons (clQ_ok (by decide) _ _) <| oks_cons (clQ_ok (by decide) _ _) <| oks_cons (clQ_ok (by decide) _ _) <| oks_cons (clQ_ok (by decide) _ _) <| oks_cons (clQ_ok (by decide) _ _) <| oks_cons (clQ_ok (by decide) _ _) <| oks_nil) rfl rfl
    have hT : ∀ t ∈ t_meet_1, t.Valid (mkC [4, 4, 4, 4, 4, 4, 4, 4, 4, 4, 4, 4] [true, true, true, true, true, true, true, true, true, true, true, true] [26, 66, 64, 104] 34 (cl_meet_1 a b c d) w) :=
      forall_cons (e_sorted (ps rfl rfl) rfl rfl rfl rfl) <|
      forall_cons (e_sorted (ps rfl rfl) rfl rfl rfl rfl) <|
      forall_cons (e_around1 (pq rfl) rfl rfl rfl rfl rfl) <|
      forall_cons (e_around1 (pq rfl) rfl rfl rfl rfl rfl) <|
      forall_cons (e_cmp (pq rfl) (pq rfl) rfl h1) <|
      forall_nil
    refine Calls.mono (run_mk hC hT 62 Tryz.f62 [sp 0 1, sp 2 3] (.tup [sp 9 10, vp (.bool true)]) 200 Tryz.func62 rfl rfl rfl (by kernel_rfl) [v1, v2] ⟨v1, _, rfl, (sp_is rfl rfl).2 ⟨q1, z1, z2⟩, v2, _, rfl, (sp_is rfl rfl).2 ⟨q2, z3, z4⟩, rfl⟩) ?_
    rintro e w' ⟨v, rfl, hv, hb⟩; exact meet_post hv hb rfl rfl
  · skip
    have hC : (mkC [4, 4, 4, 4, 4, 4, 4, 4, 4, 4, 4, 4] [true, true, true, true, true, true, true, true, true, true, true, true] [26, 66, 64, 104] 34 (cl_meet_2 a b c d) w).Ok := mkC_ok (oks_cons (clQ_ok (by decide) _ _) <| oks_cons (clQ_ok (by decide) _ _) <| oks_cons (clQ_ok (by decide) _ _) <| oks_cons (clQ_ok (by decide) _ _) <| oks_cons (clQ_ok (by decide) _ _) <| oks_cons (clQ_ok (by decide) _ _) <| oks_cons (clQ_ok (by decide) _ _) <| oks_cons (clQ_ok (by decide) _ _) <| oks_cons (clQ_ok (by decide) _ _) <| oks_cons (clQ_ok (by decide) _ _) <| oks_cons (clQ_ok (by decide) _ _) <| oks_cons (clQ_ok (by decide) _ _) <| oks_nil) rfl rfl
    have hT : ∀ t ∈ t_meet_2, t.Valid (mkC [4, 4, 4, 4, 4, 4, 4, 4, 4, 4, 4, 4] [true, true, true, true, true, true, true, true, true, true, true, true] [26, 66, 64, 104] 34 (cl_meet_2 a b c d) w) :=
      forall_cons (e_sorted (ps rfl rfl) rfl rfl rfl rfl) <|
      forall_cons (e_sorted (ps rfl rfl) rfl rfl rfl rfl) <|
      forall_cons (e_around1 (pq rfl) rfl rfl rfl rfl rfl) <|
      forall_cons (e_around1 (pq rfl) rfl rfl rfl rfl rfl) <|
      forall_cons (e_cmp (pq rfl) (pq rfl) rfl h1) <|
      forall_nil
    refine Calls.mono (run_mk hC hT 62 Tryz.f62 [sp 0 1, sp 2 3] (.tup [sp 9 10, vp (.bool true)]) 200 Tryz.func62 rfl rfl rfl (by kernel_rfl) [v1, v2] ⟨v1, _, rfl, (sp_is rfl rfl).2 ⟨q1, z1, z2⟩, v2, _, rfl, (sp_is rfl rfl).2 ⟨q2, z3, z4⟩, rfl⟩) ?_
    rintro e w' ⟨v, rfl, hv, hb⟩; exact meet_post hv hb rfl rfl
  · skip
    exact absurd h1 hx
noncomputable def cl_meetno_1 (a : Rat) (b : Rat) (c : Rat) (d : Rat) : List Cl := [
  clQ (a) 10000,
  clQ (b) 10000,
  clQ (c) 10000,
  clQ (d) 10000,
  clQ (lowOf (a) [b]) 20000,
  clQ (highOf (a) [b]) 20000,
  clQ (lowOf (c) [d]) 20000,
  clQ (highOf (c) [d]) 20000,
  clQ (lowOf (lowOf (a) [b]) [lowOf (c) [d]]) 40000,
  clQ (highOf (lowOf (a) [b]) [lowOf (c) [d]]) 40000,
  clQ (lowOf (highOf (a) [b]) [highOf (c) [d]]) 40000,
  clQ (highOf (highOf (a) [b]) [highOf (c) [d]]) 40000]
def t_meetno_1 : List Ent := [
  ⟨.call 108, [sp 0 1], (.val (sp 4 5))⟩,
  ⟨.call 108, [sp 2 3], (.val (sp 6 7))⟩,
  ⟨.call 105, [qp 4, .slc 26 1 [.cls 6 4]], (.val (sp 8 9))⟩,
  ⟨.call 105, [qp 5, .slc 26 1 [.cls 7 4]], (.val (sp 10 11))⟩,
  ⟨.call 31, [qp 9, qp 10], (.val (vp (.int .i64 1)))⟩]
set_option maxRecDepth 100000 in
theorem meet_no (v1 v2 : Value) (a b c d : Rat) (w : World) (hG : Gr w) (q1 : IsS w v1 a b) (q2 : IsS w v2 c d) (z1 : Siz a 10000) (z2 : Siz b 10000) (z3 : Siz c 10000) (z4 : Siz d 10000) (hx : cmpQ (highOf (lowOf a [b]) [lowOf c [d]]) (lowOf (highOf a [b]) [highOf c [d]]) = 1) :
    Calls Tryz.prog 62 #[v1, v2] w (fun e w' => ∃ v, e = .returned (.tuple #[v, .bool false]) ∧ IsS w' v 0 0 ∧ Below w.heap.size w w') := by
  have hC : (mkC [4, 4, 4, 4, 4, 4, 4, 4, 4, 4, 4, 4] [true, true, true, true, true, true, true, true, true, true, true, true] [26, 66, 64, 104] 34 (cl_meetno_1 a b c d) w).Ok := mkC_ok (oks_cons (clQ_ok (by decide) _ _) <| oks_cons (clQ_ok (by decide) _ _) <| oks_cons (clQ_ok (by decide) _ _) <| oks_cons (clQ_ok (by decide) _ _) <| oks_cons (clQ_ok (by decide) _ _) <| oks_cons (clQ_ok (by decide) _ _) <| oks_cons (clQ_ok (by decide) _ _) <| oks_cons (clQ_ok (by decide) _ _) <| oks_cons (clQ_ok (by decide) _ _) <| oks_cons (clQ_ok (by decide) _ _) <| oks_cons (clQ_ok (by decide) _ _) <| oks_cons (clQ_ok (by decide) _ _) <| oks_nil) rfl rfl
  have hT : ∀ t ∈ t_meetno_1, t.Valid (mkC [4, 4, 4, 4, 4, 4, 4, 4, 4, 4, 4, 4] [true, true, true, true, true, true, true, true, true, true, true, true] [26, 66, 64, 104] 34 (cl_meetno_1 a b c d) w) :=
    forall_cons (e_sorted (ps rfl rfl) rfl rfl rfl rfl) <|
    forall_cons (e_sorted (ps rfl rfl) rfl rfl rfl rfl) <|
    forall_cons (e_around1 (pq rfl) rfl rfl rfl rfl rfl) <|
    forall_cons (e_around1 (pq rfl) rfl rfl rfl rfl rfl) <|
    forall_cons (e_cmp (pq rfl) (pq rfl) rfl hx) <|
    forall_nil
  refine Calls.mono (run_mk hC hT 62 Tryz.f62 [sp 0 1, sp 2 3] (.tup [.agg [.lit (.bool false), .lit (.int .u64 0), .lit (.int .u64 0), .lit (.pointer none), .lit (.bool false), .lit (.int .u64 0), .lit (.int .u64 0), .lit (.pointer none)], vp (.bool false)]) 200 Tryz.func62 rfl rfl rfl (by kernel_rfl) [v1, v2] ⟨v1, _, rfl, (sp_is rfl rfl).2 ⟨q1, z1, z2⟩, v2, _, rfl, (sp_is rfl rfl).2 ⟨q2, z3, z4⟩, rfl⟩) ?_
  rintro e w' ⟨v, rfl, hv, hb⟩; exact meet_post0 hv hb
section
variable {csz : List Nat} {numc : List Bool} {okT : List Nat} {nt : Nat} {cl : List Cl} {w0 : World} {p1 p2 p3 p4 : Pat} {c1 c2 c3 c4 c5 c6 : Nat} {r s a b c d g lo hi : Rat} {k k1 k2 k3 k4 k5 k6 : Nat}
def smalls (l : List Nat) : Bool := l.all (fun k => Nat.ble k 10000)
theorem smalls_le {l : List Nat} (h : smalls l = true) : ∀ k ∈ l, k ≤ 10000 := fun k hk => Nat.le_of_ble_eq_true (List.all_eq_true.1 h k hk)
theorem siz_meet {a b c d : Rat} {k : Nat} (z1 : Siz a k) (z2 : Siz b k) (z3 : Siz c k) (z4 : Siz d k) : Siz (highOf (lowOf a [b]) [lowOf c [d]]) k ∧ Siz (lowOf (highOf a [b]) [highOf c [d]]) k :=
  ⟨siz_h1 (siz_l1 z1 z2) (siz_l1 z3 z4), siz_l1 (siz_h1 z1 z2) (siz_h1 z3 z4)⟩
theorem e_meet (hG : Gr w0) (h1 : PS csz numc okT nt cl w0 p1 a k1 b k2) (h2 : PS csz numc okT nt cl w0 p2 c k3 d k4) (h5 : cl[c5]? = some (clQ (highOf (lowOf a [b]) [lowOf c [d]]) k5)) (h6 : cl[c6]? = some (clQ (lowOf (highOf a [b]) [highOf c [d]]) k6))
    (hk : smalls [k1, k2, k3, k4] = true) (hk5 : fits 10000 k5 = true) (hk6 : fits 10000 k6 = true) (hx : cmpQ (highOf (lowOf a [b]) [lowOf c [d]]) (lowOf (highOf a [b]) [highOf c [d]]) ≠ 1) : V csz numc okT nt cl w0 (.call 62) [p1, p2] (.tup [sp c5 c6, vp (.bool true)]) := by
  have hk := smalls_le hk
  refine ⟨enters_of Tryz.func62 (by kernel_rfl) rfl, fun w vs hb hvs => ?_⟩
  obtain ⟨v1, _, rfl, h7, v2, _, rfl, h8, rfl⟩ := hvs
  obtain ⟨q1, z1, z2⟩ := h1 _ _ h7
  obtain ⟨q2, z3, z4⟩ := h2 _ _ h8
  have z1 := z1.le (hk k1 (by simp))
  have z2 := z2.le (hk k2 (by simp))
  have z3 := z3.le (hk k3 (by simp))
  have z4 := z4.le (hk k4 (by simp))
  refine (meet_ok v1 v2 a b c d w (hG.below hb hG.size) q1 q2 z1 z2 z3 z4 hx).mono ?_
  rintro e w' ⟨v, rfl, hv, hb'⟩
  have z := siz_meet z1 z2 z3 z4
  exact ⟨_, rfl, ⟨_, ⟨_, _, rfl, (sp_is h5 h6).2 ⟨hv, z.1.le (fits_le hk5).1, z.2.le (fits_le hk6).1⟩, _, _, rfl, vp_is.2 rfl, rfl⟩, rfl⟩, hb'⟩
theorem e_meet0 (hG : Gr w0) (h1 : PS csz numc okT nt cl w0 p1 a k1 b k2) (h2 : PS csz numc okT nt cl w0 p2 c k3 d k4) (h5 : cl[c5]? = some (clQ 0 k5))
    (hk : smalls [k1, k2, k3, k4] = true) (hk5 : fits 1 k5 = true) (hx : cmpQ (highOf (lowOf a [b]) [lowOf c [d]]) (lowOf (highOf a [b]) [highOf c [d]]) = 1) : V csz numc okT nt cl w0 (.call 62) [p1, p2] (.tup [sp c5 c5, vp (.bool false)]) := by
  have hk := smalls_le hk
  refine ⟨enters_of Tryz.func62 (by kernel_rfl) rfl, fun w vs hb hvs => ?_⟩
  obtain ⟨v1, _, rfl, h7, v2, _, rfl, h8, rfl⟩ := hvs
  obtain ⟨q1, z1, z2⟩ := h1 _ _ h7
  obtain ⟨q2, z3, z4⟩ := h2 _ _ h8
  refine (meet_no v1 v2 a b c d w (hG.below hb hG.size) q1 q2 (z1.le (hk k1 (by simp))) (z2.le (hk k2 (by simp))) (z3.le (hk k3 (by simp))) (z4.le (hk k4 (by simp))) hx).mono ?_
  rintro e w' ⟨v, rfl, hv, hb'⟩
  have z := Siz.zero k5 (fits_le hk5).1
  exact ⟨_, rfl, ⟨_, ⟨_, _, rfl, (sp_is h5 h5).2 ⟨hv, z, z⟩, _, _, rfl, vp_is.2 rfl, rfl⟩, rfl⟩, hb'⟩
end
end Sym
open Go Go.RowKit Go.Proofs Lim
namespace Sym
theorem low2 (a b : Rat) : lowOf a [b] = minQ a b := by
  show (if b < a then b else a) = _
  unfold minQ
  by_cases h : a ≤ b
  · rw [if_neg (by grind), if_pos h]
  · rw [if_pos (by grind), if_neg h]
theorem high2 (a b : Rat) : highOf a [b] = maxQ a b := by
  show (if a < b then b else a) = _
  unfold maxQ
  by_cases h : b ≤ a
  · rw [if_neg (by grind), if_pos h]
  · rw [if_pos (by grind), if_neg h]
theorem qrsT : (∀ t ∈ [26, 33, 66, 68], t ≠ 23) ∧ (∀ t ∈ [26, 33, 66, 68], t ≠ 3) := by decide
abbrev okS : List Nat := [26, 33, 66, 68]
abbrev cl_spans (la lb : List UInt8) (a b : Rat) : List Cl := [clV (str la), clV (str lb), clQ a 7, clR a 7, clQ b 7, clR b 7, clR (minQ a b) 400, clR (maxQ a b) 400]
theorem spans_ok (la lb : List UInt8) (a b : Rat) (w : World) (hG : Gr w) (h1 : la.length ≤ 100000) (h2 : lb.length ≤ 100000) (ha : (readQ la).1 = a) (hb : (readQ lb).1 = b) (za : Siz a 7) (zb : Siz b 7) : Calls Tryz.prog 45 #[.agg #[str la, str lb]] w (fun e w' => ∃ x y, e = .returned (.tuple #[x, y]) ∧ IsS w' x a b ∧ RSp w' y (minQ a b) (maxQ a b) ∧ Siz (minQ a b) 400 ∧ Siz (maxQ a b) 400 ∧ Below w.heap.size w w') := by
  have hC : (mkC [1, 1, 4, 3, 4, 3, 3, 3] [true, true, true, true, true, true, true, true] okS 26 (cl_spans la lb a b) w).Ok := mkC_ok (oks_cons (clVs_ok _) (oks_cons (clVs_ok _) (oks_cons (clQ_ok qrsT.1 _ _) (oks_cons (clR_ok qrsT.2 _ _) (oks_cons (clQ_ok qrsT.1 _ _) (oks_cons (clR_ok qrsT.2 _ _) (oks_cons (clR_ok qrsT.2 _ _) (oks_cons (clR_ok qrsT.2 _ _) oks_nil)))))))) rfl rfl
  have hT : ∀ t ∈ ([⟨.call 24, [op 0], .tup [qp 2, rq 3]⟩, ⟨.call 24, [op 1], .tup [qp 4, rq 5]⟩, ⟨.call 101, [rq 3, rq 5], .val (rsp 6 7)⟩] : List Ent), t.Valid (mkC [1, 1, 4, 3, 4, 3, 3, 3] [true, true, true, true, true, true, true, true] okS 26 (cl_spans la lb a b) w) :=
    forall_cons (e_both hG h1 (pv rfl) ha za rfl rfl) (forall_cons (e_both hG h2 (pv rfl) hb zb rfl rfl) (forall_cons (e_rbetween (pr rfl) (pr rfl) rfl rfl rfl rfl) forall_nil))
  refine (run_mk hC hT 45 Tryz.f45 [.agg [.cls 0 1, .cls 1 1]] (.tup [sp 2 4, rsp 6 7]) 60 Tryz.func45 rfl rfl rfl (by kernel_rfl) [.agg #[str la, str lb]] ⟨_, _, rfl, ⟨[str la, str lb], ⟨[str la], _, rfl, ⟨fun _ => str la, rfl, rfl⟩, ⟨[str lb], _, rfl, ⟨fun _ => str lb, rfl, rfl⟩, rfl⟩⟩, rfl⟩, rfl⟩).mono ?_
  rintro e w' ⟨v, rfl, ⟨vs, ⟨v1, _, rfl, g1, v2, _, rfl, g2, rfl⟩, rfl⟩, hb⟩
  obtain ⟨q1, _, _⟩ := (sp_is rfl rfl).1 g1
  obtain ⟨q2, q3, q4⟩ := (rsp_is rfl rfl).1 g2
  exact ⟨v1, v2, rfl, q1, q2, q3, q4, hb⟩
theorem sameSpan_ok (x y : Value) (a b : Rat) (k : Nat) (w : World) (hx : IsS w x a b) (hy : RSp w y a b) (za : Siz a k) (zb : Siz b k) (hk : k ≤ 400000) : Calls Tryz.prog 46 #[x, y] w (Go.Proofs.YtccabfblgjcboaaGreatDoor.Val w (.bool true)) := by
  have hC : (mkC [4, 4, 3, 3] [true, true, true, true] okS 17 [clQ a k, clQ b k, clR a k, clR b k] w).Ok := mkC_ok (oks_cons (clQ_ok qrsT.1 _ _) (oks_cons (clQ_ok qrsT.1 _ _) (oks_cons (clR_ok qrsT.2 _ _) (oks_cons (clR_ok qrsT.2 _ _) oks_nil)))) rfl rfl
  have hf : fits (k + k) 1000000 = true := by simp only [fits, Bool.and_eq_true]; exact ⟨Nat.ble_eq_true_of_le (by omega), rfl⟩
  have hT : ∀ t ∈ ([⟨.call 13, [qp 0, rq 2], .val (vp (.bool true))⟩, ⟨.call 13, [qp 1, rq 3], .val (vp (.bool true))⟩] : List Ent), t.Valid (mkC [4, 4, 3, 3] [true, true, true, true] okS 17 [clQ a k, clQ b k, clR a k, clR b k] w) :=
    forall_cons (e_same (pq rfl) (pr rfl) hf (decide_eq_true rfl)) (forall_cons (e_same (pq rfl) (pr rfl) hf (decide_eq_true rfl)) forall_nil)
  refine (run_mk hC hT 46 Tryz.f46 [sp 0 1, rsp 2 3] (.val (vp (.bool true))) 60 Tryz.func46 rfl rfl rfl (by kernel_rfl) [x, y] ⟨_, _, rfl, (sp_is rfl rfl).2 ⟨hx, za, zb⟩, _, _, rfl, (rsp_is rfl rfl).2 ⟨hy, za, zb⟩, rfl⟩).mono ?_
  rintro e w' ⟨v, rfl, hv, hb⟩
  rw [val_of hv]
  exact ⟨rfl, hb⟩
section
variable {csz : List Nat} {numc : List Bool} {okT : List Nat} {nt : Nat} {cl : List Cl} {w0 : World} {p1 p2 : Pat} {c1 c2 c3 c4 : Nat} {la lb : List UInt8} {a b c d : Rat} {k1 k2 k3 k4 : Nat}
theorem e_spans (hG : Gr w0) (hl1 : la.length ≤ 100000) (hl2 : lb.length ≤ 100000) {i j : Nat} (hi : cl[i]? = some (clV (str la))) (hj : cl[j]? = some (clV (str lb))) (ha : (readQ la).1 = a) (hb : (readQ lb).1 = b) (za : Siz a 7) (zb : Siz b 7) (h1 : cl[c1]? = some (clQ a 7)) (h2 : cl[c2]? = some (clQ b 7)) (h3 : cl[c3]? = some (clR (minQ a b) 400)) (h4 : cl[c4]? = some (clR (maxQ a b) 400)) :
    V csz numc okT nt cl w0 (.call 45) [.agg [.cls i 1, .cls j 1]] (.tup [sp c1 c2, rsp c3 c4]) := by
  refine ⟨enters_of Tryz.func45 (by kernel_rfl) rfl, fun w vs hbw hvs => ?_⟩
  obtain ⟨v1, _, rfl, ⟨us, ⟨xs, ys, rfl, ⟨f, hE, rfl⟩, xs', ys', rfl, ⟨f', hE', rfl⟩, hy⟩, rfl⟩, rfl⟩ := hvs
  rw [show ys' = [] from hy]
  simp only [mkC, hi] at hE
  simp only [mkC, hj] at hE'
  have e1 : f 0 = str la := hE
  have e2 : f' 0 = str lb := hE'
  have e3 : (((List.range 1).map f ++ ((List.range 1).map f' ++ [])).toArray : Array Value) = #[str la, str lb] := by simp [List.range_succ, e1, e2]
  rw [e3]
  refine (spans_ok la lb a b w (hG.below hbw hG.size) hl1 hl2 ha hb za zb).mono ?_
  rintro e w' ⟨x, y, rfl, q1, q2, q3, q4, hb'⟩
  exact ⟨_, rfl, ⟨_, ⟨_, _, rfl, (sp_is h1 h2).2 ⟨q1, za, zb⟩, _, _, rfl, (rsp_is h3 h4).2 ⟨q2, q3, q4⟩, rfl⟩, rfl⟩, hb'⟩
theorem e_sameSpan (h1 : PS csz numc okT nt cl w0 p1 a k1 b k2) (h2 : PRS csz numc okT nt cl w0 p2 c k3 d k4) (hk : fits (k1 + k2 + k3 + k4) 400000 = true) (hac : a = c) (hbd : b = d) : V csz numc okT nt cl w0 (.call 46) [p1, p2] (.val (vp (.bool true))) := by
  subst hac hbd
  have hk := fits_le hk
  refine ⟨enters_of Tryz.func46 (by kernel_rfl) rfl, fun w vs hb hvs => ?_⟩
  obtain ⟨v1, _, rfl, h4, v2, _, rfl, h5, rfl⟩ := hvs
  have h4 := h1 _ _ h4
  have h5 := h2 _ _ h5
  refine (sameSpan_ok v1 v2 a b (k1 + k2 + k3 + k4) w h4.1 h5.1 (h4.2.1.le (by omega)) (h4.2.2.le (by omega)) (by omega)).mono ?_
  rintro e w' ⟨rfl, hb'⟩
  exact ⟨_, rfl, vp_r _ _ _, hb'⟩
end
end Sym
open Go Go.RowKit Go.Proofs Lim
namespace Sym
theorem minQ_comm (a b : Rat) : minQ a b = minQ b a := by unfold minQ; grind
theorem maxQ_comm (a b : Rat) : maxQ a b = maxQ b a := by unfold maxQ; grind
theorem minQ_assoc (a b c : Rat) : minQ (minQ a b) c = minQ a (minQ b c) := by unfold minQ; grind
theorem maxQ_assoc (a b c : Rat) : maxQ (maxQ a b) c = maxQ a (maxQ b c) := by unfold maxQ; grind
instance : Std.Commutative minQ := ⟨minQ_comm⟩
instance : Std.Commutative maxQ := ⟨maxQ_comm⟩
instance : Std.Associative minQ := ⟨minQ_assoc⟩
instance : Std.Associative maxQ := ⟨maxQ_assoc⟩
theorem low_R (r : Rat) (rs : List Rat) : lowOf r rs = lowR r rs := by
  unfold lowOf lowR
  congr 1
  funext a x
  unfold minQ
  grind
theorem high_R (r : Rat) (rs : List Rat) : highOf r rs = highR r rs := by
  unfold highOf highR
  congr 1
  funext a x
  unfold maxQ
  grind
theorem min_max (a b : Rat) : (minQ a b = a ∧ maxQ a b = b) ∨ (minQ a b = b ∧ maxQ a b = a) := by
  unfold minQ maxQ
  grind
theorem w_low (f : Rat → Rat → Rat) (a b c d : Rat) : wLow f a b c d = lowR (f (minQ a b) (minQ c d)) [f (minQ a b) (maxQ c d), f (maxQ a b) (minQ c d), f (maxQ a b) (maxQ c d)] := by
  unfold wLow
  rw [low_R]
  rcases min_max a b with ⟨e1, e2⟩ | ⟨e1, e2⟩ <;> rcases min_max c d with ⟨e3, e4⟩ | ⟨e3, e4⟩ <;> rw [e1, e2, e3, e4] <;> simp only [lowR, List.foldl_cons, List.foldl_nil] <;> ac_rfl
theorem w_high (f : Rat → Rat → Rat) (a b c d : Rat) : wHigh f a b c d = highR (f (minQ a b) (minQ c d)) [f (minQ a b) (maxQ c d), f (maxQ a b) (minQ c d), f (maxQ a b) (maxQ c d)] := by
  unfold wHigh
  rw [high_R]
  rcases min_max a b with ⟨e1, e2⟩ | ⟨e1, e2⟩ <;> rcases min_max c d with ⟨e3, e4⟩ | ⟨e3, e4⟩ <;> rw [e1, e2, e3, e4] <;> simp only [highR, List.foldl_cons, List.foldl_nil] <;> ac_rfl
theorem min_le_max (a b : Rat) : minQ a b ≤ maxQ a b := by unfold minQ maxQ; grind
theorem plus_low (a b c d : Rat) : wLow (fun r s => r + s) a b c d = minQ a b + minQ c d := by
  rw [w_low]
  have h1 := min_le_max a b
  have h2 := min_le_max c d
  generalize minQ a b = x at *
  generalize maxQ a b = y at *
  generalize minQ c d = z at *
  generalize maxQ c d = t at *
  simp only [lowR, List.foldl_cons, List.foldl_nil]
  rw [show minQ (x + z) (x + t) = x + z from if_pos (by grind), show minQ (x + z) (y + z) = x + z from if_pos (by grind), show minQ (x + z) (y + t) = x + z from if_pos (by grind)]
theorem plus_high (a b c d : Rat) : wHigh (fun r s => r + s) a b c d = maxQ a b + maxQ c d := by
  rw [w_high]
  have h1 := min_le_max a b
  have h2 := min_le_max c d
  generalize minQ a b = x at *
  generalize maxQ a b = y at *
  generalize minQ c d = z at *
  generalize maxQ c d = t at *
  simp only [highR, List.foldl_cons, List.foldl_nil]
  generalize hm : maxQ (maxQ (x + z) (x + t)) (y + z) = m
  have : m ≤ y + t := by subst hm; unfold maxQ; grind
  unfold maxQ
  grind
theorem minus_low (a b c d : Rat) : wLow (fun r s => r - s) a b c d = minQ a b + -(maxQ c d) := by
  rw [w_low]
  have h1 := min_le_max a b
  have h2 := min_le_max c d
  generalize minQ a b = x at *
  generalize maxQ a b = y at *
  generalize minQ c d = z at *
  generalize maxQ c d = t at *
  simp only [lowR, List.foldl_cons, List.foldl_nil]
  rw [show minQ (x - z) (x - t) = x - t from (minQ_comm _ _).trans (if_pos (by grind)), show minQ (x - t) (y - z) = x - t from if_pos (by grind), show minQ (x - t) (y - t) = x - t from if_pos (by grind)]
  grind
theorem minus_high (a b c d : Rat) : wHigh (fun r s => r - s) a b c d = maxQ a b + -(minQ c d) := by
  rw [w_high]
  have h1 := min_le_max a b
  have h2 := min_le_max c d
  generalize minQ a b = x at *
  generalize maxQ a b = y at *
  generalize minQ c d = z at *
  generalize maxQ c d = t at *
  simp only [highR, List.foldl_cons, List.foldl_nil]
  generalize hm : maxQ (x - z) (x - t) = m
  have : m ≤ y - z := by subst hm; unfold maxQ; grind
  unfold maxQ
  grind
theorem has_R (a b x : Rat) : hasQ a b x = hasR (minQ a b) (maxQ a b) x := by
  unfold hasQ hasR
  rw [low2, high2]
theorem low_two (g : Rat → Rat) (a b : Rat) (t : List Rat) : lowR (g (minQ a b)) (g (maxQ a b) :: t) = lowOf (g a) (g b :: t) := by
  rw [low_R]
  rcases min_max a b with ⟨e1, e2⟩ | ⟨e1, e2⟩ <;> rw [e1, e2]
  simp only [lowR, List.foldl_cons]
  rw [minQ_comm]
theorem high_two (g : Rat → Rat) (a b : Rat) (t : List Rat) : highR (g (minQ a b)) (g (maxQ a b) :: t) = highOf (g a) (g b :: t) := by
  rw [high_R]
  rcases min_max a b with ⟨e1, e2⟩ | ⟨e1, e2⟩ <;> rw [e1, e2]
  simp only [highR, List.foldl_cons]
  rw [maxQ_comm]
theorem hull_low (a b c d : Rat) : lowOf a [b, c, d] = minQ (minQ a b) (minQ c d) := by
  rw [low_R]
  simp only [lowR, List.foldl_cons, List.foldl_nil]
  ac_rfl
theorem hull_high (a b c d : Rat) : highOf a [b, c, d] = maxQ (maxQ a b) (maxQ c d) := by
  rw [high_R]
  simp only [highR, List.foldl_cons, List.foldl_nil]
  ac_rfl
theorem one1 (x : Rat) : ((((1 : Int) : Rat)) * (x * x)) + ((((0 : Int) : Rat)) * x) + (((0 : Int) : Rat)) = x * x := by
  rw [show ((1 : Int) : Rat) = 1 from rfl, show ((0 : Int) : Rat) = 0 from rfl]
  grind
theorem turn0 : (-(((0 : Int) : Rat))) / ((((2 : Int) : Rat)) * (((1 : Int) : Rat))) = 0 := by decide +kernel
section
variable {csz : List Nat} {numc : List Bool} {okT : List Nat} {nt : Nat} {cl : List Cl} {w0 : World} {p1 p2 : Pat} {c1 c2 : Nat} {a b c d : Rat} {k1 k2 k3 k4 : Nat}
theorem e_rsq (h1 : PRS csz numc okT nt cl w0 p1 (minQ a b) k1 (maxQ a b) k2) (f1 : fitr k1 400 = true) (f2 : fitr k2 400 = true) (g1 : cl[c1]? = some (clR (lowOf (a * a) (turnVals (hasQ a b 0) (b * b) (0 * 0))) 4862)) (g2 : cl[c2]? = some (clR (highOf (a * a) (turnVals (hasQ a b 0) (b * b) (0 * 0))) 4862)) :
    V csz numc okT nt cl w0 (.call 59) [p1] (.val (rsp c1 c2)) := by
  have h := has_R a b 0
  rw [← turn0] at h
  cases hx : hasR (minQ a b) (maxQ a b) ((-(((0 : Int) : Rat))) / ((((2 : Int) : Rat)) * (((1 : Int) : Rat)))) with
  | true =>
    rw [hx, turn0] at h
    refine e_rsquare h1 f1 f2 hx (g1.trans ?_) (g2.trans ?_) <;> simp only [one1, turn0] <;> rw [h]
    · rw [low_two (fun x => x * x)]; rfl
    · rw [high_two (fun x => x * x)]; rfl
  | false =>
    rw [hx, turn0] at h
    refine e_rsquare0 h1 f1 f2 hx (g1.trans ?_) (g2.trans ?_) <;> simp only [one1] <;> rw [h]
    · rw [low_two (fun x => x * x)]; rfl
    · rw [high_two (fun x => x * x)]; rfl
theorem e_rabs2 (h1 : PRS csz numc okT nt cl w0 p1 (minQ a b) k1 (maxQ a b) k2) (f1 : fitr k1 400 = true) (f2 : fitr k2 400 = true) (g1 : cl[c1]? = some (clR (lowOf (absQ a) (turnVals (hasQ a b 0) (absQ b) (absQ 0))) 400)) (g2 : cl[c2]? = some (clR (highOf (absQ a) (turnVals (hasQ a b 0) (absQ b) (absQ 0))) 400)) :
    V csz numc okT nt cl w0 (.call 61) [p1] (.val (rsp c1 c2)) := by
  have h := has_R a b 0
  cases hx : hasR (minQ a b) (maxQ a b) ((0 : Int) : Rat) with
  | true =>
    rw [show hasR (minQ a b) (maxQ a b) 0 = true from hx] at h
    refine e_rabssp h1 f1 f2 hx (g1.trans ?_) (g2.trans ?_) <;> rw [h]
    · rw [low_two absQ]; rfl
    · rw [high_two absQ]; rfl
  | false =>
    rw [show hasR (minQ a b) (maxQ a b) 0 = false from hx] at h
    refine e_rabssp0 h1 f1 f2 hx (g1.trans ?_) (g2.trans ?_) <;> rw [h]
    · rw [low_two absQ]; rfl
    · rw [high_two absQ]; rfl
end
end Sym
end Go.Proofs.YtccabfblgjcboaaGreatDoor
