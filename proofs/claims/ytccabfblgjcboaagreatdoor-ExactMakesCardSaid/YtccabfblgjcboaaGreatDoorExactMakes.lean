/- ExactMakes: for all integers the call returns true: integers and fractions, and the way back, are those of the document. No condition. -/
import Derived.Test.YtccabfblgjcboaaGreatDoorJ5
import Derived.Test.YtccabfblgjcboaaGreatDoorJF
set_option linter.unusedVariables false
set_option linter.unusedSimpArgs false

/- ExactMakes: for all integers the call returns true: integers and fractions, and the way back, are those of the document. No condition. -/
namespace Go.Proofs.YtccabfblgjcboaaGreatDoor
open Go Go.RowKit Go.Proofs Lim
namespace Sym
section
variable {csz : List Nat} {numc : List Bool} {okT : List Nat} {nt : Nat} {cl : List Cl} {w0 : World} {w : World} {v z : Value} {p1 p2 p3 p4 : Pat} {res : RPat} {c d c1 c2 c3 c4 c5 c6 : Nat} {a b l : List UInt8} {r s : Rat} {k k1 k2 k3 : Nat} {i j : Int}
theorem e_intx (h1 : PV csz numc okT nt cl w0 p1 (ii i)) (g1 : -9223372036854775808 ≤ i) (g2 : i ≤ 9223372036854775807) (h3 : cl[c3]? = some (clQ (i : Rat) k3)) (hk : fits 1 k3 = true) : V csz numc okT nt cl w0 (.call 15) [p1] (.val (qp c3)) := by
  refine ⟨enters_of Tryz.func15 (by kernel_rfl) rfl, fun w vs hb hvs => ?_⟩
  obtain ⟨v1, _, rfl, h4, rfl⟩ := hvs
  obtain rfl := h1 _ _ h4
  refine (int_q i g1 g2 w).mono ?_
  rintro e w' ⟨v, rfl, hv, hb'⟩
  exact ⟨v, rfl, (qp_is h3).2 ⟨hv, (siz_int i g1 g2).le (fits_le hk).1⟩, hb'⟩
theorem e_rintx (h1 : PV csz numc okT nt cl w0 p1 (ii i)) (g1 : -9223372036854775808 ≤ i) (g2 : i ≤ 9223372036854775807) (h3 : cl[c3]? = some (clR (i : Rat) k3)) (hk : fits 1 k3 = true) : V csz numc okT nt cl w0 (.call 16) [p1] (.val (rq c3)) := by
  refine ⟨enters_of Tryz.func16 (by kernel_rfl) rfl, fun w vs hb hvs => ?_⟩
  obtain ⟨v1, _, rfl, h4, rfl⟩ := hvs
  obtain rfl := h1 _ _ h4
  refine (rint_q i g1 g2 w).mono ?_
  rintro e w' ⟨v, rfl, hv, hb'⟩
  exact ⟨v, rfl, (rq_is h3).2 ⟨hv, (siz_int i g1 g2).le (fits_le hk).1⟩, hb'⟩
theorem e_of (hG : Gr w0) (h1 : PV csz numc okT nt cl w0 p1 (ii i)) (h2 : PV csz numc okT nt cl w0 p2 (ii j)) (g1 : -9223372036854775808 ≤ i) (g2 : i ≤ 9223372036854775807) (g3 : -9223372036854775808 ≤ j) (g4 : j ≤ 9223372036854775807) (h0 : j ≠ 0) (h3 : cl[c3]? = some (clQ ((i : Rat) / (j : Rat)) k3)) (hk : fits 2 k3 = true) : V csz numc okT nt cl w0 (.call 18) [p1, p2] (.tup [qp c3, vp (ii 0)]) := by
  refine ⟨enters_of Tryz.func18 (by kernel_rfl) rfl, fun w vs hb hvs => ?_⟩
  obtain ⟨v1, _, rfl, h4, v2, _, rfl, h5, rfl⟩ := hvs
  obtain rfl := h1 _ _ h4
  obtain rfl := h2 _ _ h5
  refine (of_q i j g1 g2 g3 g4 w (hG.below hb hG.size)).mono ?_
  rintro e w' (⟨hj, _⟩ | ⟨_, v, rfl, hv, hb'⟩)
  · exact absurd hj h0
  · exact ⟨_, rfl, ⟨_, ⟨_, _, rfl, (qp_is h3).2 ⟨hv, ((siz_int i g1 g2).div (siz_int j g3 g4) h0).le (fits_le hk).1⟩, _, _, rfl, vp_is.2 rfl, rfl⟩, rfl⟩, hb'⟩
theorem e_of0 (hG : Gr w0) (h1 : PV csz numc okT nt cl w0 p1 (ii i)) (g1 : -9223372036854775808 ≤ i) (g2 : i ≤ 9223372036854775807) (h3 : cl[c3]? = some (clQ 0 k3)) (hk : fits 1 k3 = true) : V csz numc okT nt cl w0 (.call 18) [p1, vp (ii 0)] (.tup [qp c3, vp (ii 10)]) := by
  refine ⟨enters_of Tryz.func18 (by kernel_rfl) rfl, fun w vs hb hvs => ?_⟩
  obtain ⟨v1, _, rfl, h4, v2, _, rfl, h5, rfl⟩ := hvs
  obtain rfl := h1 _ _ h4
  obtain rfl := vp_is.1 h5
  refine (of_q i 0 g1 g2 (by decide) (by decide) w (hG.below hb hG.size)).mono ?_
  rintro e w' (⟨_, rfl, hb'⟩ | ⟨h, _⟩)
  · exact ⟨_, rfl, ⟨_, ⟨_, _, rfl, (qp_is h3).2 ⟨Num.low 0 rfl rfl B_pos (show 1 < B by decide), (Siz.zero 1 (by decide)).le (fits_le hk).1⟩, _, _, rfl, vp_is.2 rfl, rfl⟩, rfl⟩, hb'⟩
  · exact absurd rfl h
theorem e_frac (h1 : PV csz numc okT nt cl w0 p1 (ii i)) (h2 : PV csz numc okT nt cl w0 p2 (ii j)) (g1 : -9223372036854775808 ≤ i) (g2 : i ≤ 9223372036854775807) (g3 : -9223372036854775808 ≤ j) (g4 : j ≤ 9223372036854775807) (h0 : j ≠ 0) (hr : (i : Rat) / (j : Rat) = r) (k1 : cl[c1]? = some (clV (.bool (decide (r.num < 0))))) (k2 : cl[c2]? = some (clD (digs r.num.natAbs))) (k3 : cl[c3]? = some (clD (digs r.den))) : V csz numc okT nt cl w0 (.call 20) [p1, p2] (.val (rp c1 c2 c3)) := by
  refine ⟨enters_of Tryz.func20 (by kernel_rfl) rfl, fun w vs hb hvs => ?_⟩
  obtain ⟨v1, _, rfl, h4, v2, _, rfl, h5, rfl⟩ := hvs
  obtain rfl := h1 _ _ h4
  obtain rfl := h2 _ _ h5
  refine (rfrac_q i j g1 g2 g3 g4 h0 w).mono ?_
  rintro e w' ⟨v, rfl, hv, hb'⟩
  rw [hr] at hv
  exact ⟨v, rfl, (rp_is k1 k2 k3).2 hv, hb'⟩
theorem e_parts (h1 : PQ csz numc okT nt cl w0 p1 r k1) (hk1 : 1 ≤ k1) (h2 : cl[c2]? = some (clQ (r.num : Rat) k2)) (h3 : cl[c3]? = some (clQ (((r.den : Nat) : Int) : Rat) k3)) (hk : fits k1 k2 = true) (hk' : fits k1 k3 = true) : V csz numc okT nt cl w0 (.call 22) [p1] (.tup [qp c2, qp c3]) := by
  refine ⟨enters_of Tryz.func22 (by kernel_rfl) rfl, fun w vs hb hvs => ?_⟩
  obtain ⟨v1, _, rfl, h4, rfl⟩ := hvs
  have h4 := h1 _ _ h4
  refine (parts_q v1 r w h4.1).mono ?_
  rintro e w' ⟨v, u, rfl, hv, hu, hb'⟩
  exact ⟨_, rfl, ⟨_, ⟨_, _, rfl, (qp_is h2).2 ⟨hv, Siz.le (show Siz _ k1 from ⟨h4.2.1, one_lt_pow hk1⟩) (fits_le hk).1⟩, _, _, rfl, (qp_is h3).2 ⟨hu, Siz.le (show Siz _ k1 from ⟨h4.2.2, one_lt_pow hk1⟩) (fits_le hk').1⟩, rfl⟩, rfl⟩, hb'⟩
theorem e_neqi {t : Nat} {x y : Int} {e : Bool} (h1 : PV csz numc okT nt cl w0 p1 (ii x)) (h2 : PV csz numc okT nt cl w0 p2 (ii y)) (he : (x != y) = e) : V csz numc okT nt cl w0 (.bin .neq t) [p1, p2] (.val (vp (.bool e))) :=
  e_bin h1 h2 rvl (fun w => by subst he; rfl)
theorem pr3 (h1 : cl[c1]? = some (clV (.bool (decide (r.num < 0))))) (h2 : cl[c2]? = some (clD (digs r.num.natAbs))) (h3 : cl[c3]? = some (clD (digs r.den))) (z : Siz r k) : PR csz numc okT nt cl w0 (rp c1 c2 c3) r k := fun w v h => ⟨(rp_is h1 h2 h3).1 h, z⟩
theorem pr_num (h1 : cl[c1]? = some (clV (.bool (decide (r.num < 0))))) (h2 : cl[c2]? = some (clD (digs r.num.natAbs))) (h3 : cl[c3]? = some (clD (digs 1))) (z : Siz r k) (hk : 1 ≤ k) : PR csz numc okT nt cl w0 (rp c1 c2 c3) (r.num : Rat) k := fun w v h => ⟨rq_intcast rfl ((rp_is h1 h2 h3).1 h), ⟨z.1, one_lt_pow hk⟩⟩
theorem pr_den (h2 : cl[c2]? = some (clD (digs r.den))) (h3 : cl[c3]? = some (clD (digs 1))) (z : Siz r k) (hk : 1 ≤ k) : PR csz numc okT nt cl w0 (rl false c2 c3) (((r.den : Nat) : Int) : Rat) k := fun w v h => ⟨rq_intcast (i := ((r.den : Nat) : Int)) (pos_dec _) ((rl_is2 h2 h3).1 h), ⟨z.2, one_lt_pow hk⟩⟩
end
theorem isI64_int {i : Int} (g1 : -9223372036854775808 ≤ i) (g2 : i ≤ 9223372036854775807) : isI64 (i : Rat) = true := decide_eq_true ⟨rfl, g1, g2⟩
set_option maxRecDepth 100000 in
theorem makes_walk (a b : Int) (ha1 : -9223372036854775808 ≤ a) (ha2 : a ≤ 9223372036854775807) (hb1 : -9223372036854775808 ≤ b) (hb2 : b ≤ 9223372036854775807) (w : World) (hG : Gr w) : Calls Tryz.prog 4 #[.int .i64 a, .int .i64 b] w (Go.Proofs.YtccabfblgjcboaaGreatDoor.Val w (.bool true)) := by
  have ia := isI64_int ha1 ha2
  by_cases h0 : b = 0
  · subst h0
    have hC : (mkC [1, 4, 3, 4] [true, true, true, true] [26, 33] 114 [clV (ii a), clQ (a : Rat) 2, clR (a : Rat) 2, clQ 0 2] w).Ok := mkC_ok (oks_cons (clVi_ok _) (oks_cons (clQ_ok qrT.1 _ _) (oks_cons (clR_ok qrT.2 _ _) (oks_cons (clQ_ok qrT.1 _ _) oks_nil)))) rfl rfl
    have hT : ∀ t ∈ ([⟨.call 15, [op 0], .val (qp 1)⟩, ⟨.call 16, [op 0], .val (rq 2)⟩, ⟨.call 17, [qp 1], .tup [op 0, vp (.bool true)]⟩, ⟨.call 13, [qp 1, rq 2], .val (vp (.bool true))⟩, ⟨.bin .neq 2, [op 0, op 0], .val (vp (.bool false))⟩,
        ⟨.call 18, [op 0, vp (ii 0)], .tup [qp 3, vp (ii 10)]⟩, ⟨.call 19, [qp 3], .val (vp (.int .i64 0))⟩, ⟨.call 10, [], .val (vp (.bool true))⟩] : List Ent), t.Valid (mkC [1, 4, 3, 4] [true, true, true, true] [26, 33] 114 [clV (ii a), clQ (a : Rat) 2, clR (a : Rat) 2, clQ 0 2] w) :=
      forall_cons (e_intx (pv rfl) ha1 ha2 rfl rfl) (forall_cons (e_rintx (pv rfl) ha1 ha2 rfl rfl) (forall_cons (e_int64 (x := a) (pq rfl) (by rw [ia]; rfl) ia (fun _ => (op_is rfl).2 rfl) (fun _ => vp_is.2 rfl)) (forall_cons (e_same (pq rfl) (pr rfl) rfl (decide_eq_true rfl)) (forall_cons (e_neqi (pv rfl) (pv rfl) (by simp))
        (forall_cons (e_of0 hG (pv rfl) ha1 ha2 rfl rfl) (forall_cons (e_sign (pq rfl) (by rfl)) (forall_cons (e_known hG) forall_nil)))))))
    refine (run_mk hC hT 4 Tryz.f4 [op 0, vp (ii 0)] (.val (vp (.bool true))) 200 Tryz.func4 rfl rfl rfl (by kernel_rfl) [.int .i64 a, .int .i64 0] ⟨_, _, rfl, (op_is rfl).2 rfl, _, _, rfl, vp_is.2 rfl, rfl⟩).mono ?_
    rintro e w' ⟨v, rfl, hv, hb⟩
    rw [val_of hv]
    exact ⟨rfl, hb⟩
  · have hz : Siz ((a : Rat) / (b : Rat)) 2 := (siz_int a ha1 ha2).div (siz_int b hb1 hb2) h0
    generalize hq : (a : Rat) / (b : Rat) = q at hz
    have hC : (mkC [1, 1, 4, 3, 4, 1, 1, 1, 1, 1, 4, 4, 1] [true, true, true, true, true, true, false, false, true, true, true, true, false] [26, 33] 114 [clV (ii a), clV (ii b), clQ (a : Rat) 2, clR (a : Rat) 2, clQ q 2, clV (.bool (decide (q.num < 0))), clD (digs q.num.natAbs), clD (digs q.den), clV (ii (if isI64 q then q.num else 0)), clV (.bool (isI64 q)), clQ (q.num : Rat) 2, clQ (((q.den : Nat) : Int) : Rat) 2, clD (digs 1)] w).Ok :=
      mkC_ok (oks_cons (clVi_ok _) (oks_cons (clVi_ok _) (oks_cons (clQ_ok qrT.1 _ _) (oks_cons (clR_ok qrT.2 _ _) (oks_cons (clQ_ok qrT.1 _ _) (oks_cons (clVb_ok _) (oks_cons (clD_ok qrT.2 _) (oks_cons (clD_ok qrT.2 _) (oks_cons (clVi_ok _) (oks_cons (clVb_ok _) (oks_cons (clQ_ok qrT.1 _ _) (oks_cons (clQ_ok qrT.1 _ _) (oks_cons (clD_ok qrT.2 _) oks_nil))))))))))))) rfl rfl
    have hT : ∀ t ∈ ([⟨.call 15, [op 0], .val (qp 2)⟩, ⟨.call 16, [op 0], .val (rq 3)⟩, ⟨.call 17, [qp 2], .tup [op 0, vp (.bool true)]⟩, ⟨.call 13, [qp 2, rq 3], .val (vp (.bool true))⟩, ⟨.bin .neq 2, [op 0, op 0], .val (vp (.bool false))⟩,
        ⟨.call 18, [op 0, op 1], .tup [qp 4, vp (ii 0)]⟩, ⟨.bin .eql 2, [op 1, vp (ii 0)], .val (vp (.bool false))⟩, ⟨.call 20, [op 0, op 1], .val (rp 5 6 7)⟩, ⟨.call 17, [qp 4], .tup [op 8, op 9]⟩, ⟨.call 21, [rp 5 6 7], .tup [op 8, op 9]⟩,
        ⟨.call 22, [qp 4], .tup [qp 10, qp 11]⟩, ⟨.call 13, [qp 4, rp 5 6 7], .val (vp (.bool true))⟩, ⟨.bin .eql 2, [op 8, op 8], .val (vp (.bool true))⟩, ⟨.bin .eql 4, [op 9, op 9], .val (vp (.bool true))⟩, ⟨.bs 31 1, [vp (ii 1)], .val (op 12)⟩,
        ⟨.call 13, [qp 10, rp 5 6 12], .val (vp (.bool true))⟩, ⟨.call 13, [qp 11, rl false 7 12], .val (vp (.bool true))⟩, ⟨.call 10, [], .val (vp (.bool true))⟩] : List Ent), t.Valid (mkC [1, 1, 4, 3, 4, 1, 1, 1, 1, 1, 4, 4, 1] [true, true, true, true, true, true, false, false, true, true, true, true, false] [26, 33] 114 [clV (ii a), clV (ii b), clQ (a : Rat) 2, clR (a : Rat) 2, clQ q 2, clV (.bool (decide (q.num < 0))), clD (digs q.num.natAbs), clD (digs q.den), clV (ii (if isI64 q then q.num else 0)), clV (.bool (isI64 q)), clQ (q.num : Rat) 2, clQ (((q.den : Nat) : Int) : Rat) 2, clD (digs 1)] w) :=
      forall_cons (e_intx (pv rfl) ha1 ha2 rfl rfl) (forall_cons (e_rintx (pv rfl) ha1 ha2 rfl rfl) (forall_cons (e_int64 (x := a) (pq rfl) (by rw [ia]; rfl) ia (fun _ => (op_is rfl).2 rfl) (fun _ => vp_is.2 rfl)) (forall_cons (e_same (pq rfl) (pr rfl) rfl (decide_eq_true rfl)) (forall_cons (e_neqi (pv rfl) (pv rfl) (by simp))
        (forall_cons (e_of hG (pv rfl) (pv rfl) ha1 ha2 hb1 hb2 h0 (by rw [hq]; rfl) rfl) (forall_cons (e_eql (pv rfl) pvl (decide_eq_false h0)) (forall_cons (e_frac (pv rfl) (pv rfl) ha1 ha2 hb1 hb2 h0 hq rfl rfl rfl) (forall_cons (e_int64 (pq rfl) rfl rfl (fun _ => (op_is rfl).2 rfl) (fun _ => (op_is rfl).2 rfl)) (forall_cons (e_rint64 (pr3 rfl rfl rfl hz) (by decide) rfl rfl (fun _ => (op_is rfl).2 rfl) (fun _ => (op_is rfl).2 rfl))
          (forall_cons (e_parts (pq rfl) (by decide) rfl rfl rfl rfl) (forall_cons (e_same (pq rfl) (pr3 rfl rfl rfl hz) rfl (decide_eq_true rfl)) (forall_cons (e_eql (pv rfl) (pv rfl) (decide_eq_true rfl)) (forall_cons (e_eqb (pv rfl) (pv rfl) (by simp)) (forall_cons (e_bs1 (x := 1) pvl (rd (by rw [← digs_one]; rfl)))
            (forall_cons (e_same (pq rfl) (pr_num rfl rfl rfl hz (by decide)) rfl (decide_eq_true rfl)) (forall_cons (e_same (pq rfl) (pr_den rfl rfl hz (by decide)) rfl (decide_eq_true rfl)) (forall_cons (e_known hG) forall_nil)))))))))))))))))
    refine (run_mk hC hT 4 Tryz.f4 [op 0, op 1] (.val (vp (.bool true))) 200 Tryz.func4 rfl rfl rfl (by kernel_rfl) [.int .i64 a, .int .i64 b] ⟨_, _, rfl, (op_is rfl).2 rfl, _, _, rfl, (op_is rfl).2 rfl, rfl⟩).mono ?_
    rintro e w' ⟨v, rfl, hv, hb⟩
    rw [val_of hv]
    exact ⟨rfl, hb⟩
end Sym
end Go.Proofs.YtccabfblgjcboaaGreatDoor

/- ExactMakes: the statement, out of the walk. -/
namespace Go.Proofs.YtccabfblgjcboaaGreatDoor
open Go Go.RowKit Go.Proofs Lim
open Go.ChangeShapes Go.WideShapes Go.ChangeAt Go.ChangeMaps

namespace lawExactMakes

set_option maxRecDepth 100000 in
theorem contract (H : Type) (enc : TypeId × Value → H) (W : World) (base : Nat) (args : Array Value) (ds gs : List (DataW H)) (before : List MemPlace)
    (hval : ∀ (j : Nat) t v, Tryz.f4.params[j]? = some t → args[j]? = some v → Value.okWide Tryz.prog W .any base t v)
    (hW : DataW.Whole enc Tryz.prog Tryz.f4.params.toList Rows.exactMakesSpec.vars false W args.toList ds gs before) (hG : Gr W) :
    Calls Tryz.prog 4 args W fun e W' => ∃ v, e = .returned v ∧ Rows.exactMakesSpec.post enc Tryz.prog Tryz.f4 false true false false W args v W' := by
  have hW' := hW
  obtain ⟨p, q, hA0, hV, rfl, hfz, hnd⟩ := hW
  have hA : DataW.TrodAll enc Tryz.prog W 0 (fun _ => true) true Tryz.f4.params.toList args.toList ds p := hA0
  rw [Tryz.params4] at hA hval
  obtain ⟨v0, vs0, d0, ds0, p0, q0, hargs0, rfl, rfl, h0, r0⟩ := trodAll_cons hA
  obtain ⟨v1, vs1, d1, ds1, p1, q1, hargs1, rfl, rfl, h1, r1⟩ := trodAll_cons r0
  obtain ⟨rfl, rfl, rfl⟩ := trodAll_nil r1
  obtain rfl : args = #[v0, v1] := by cases args; simp_all
  obtain ⟨rfl, rfl⟩ := trodVars_none hV
  obtain ⟨s0, rfl, rfl, rfl, hs0⟩ := open_int Tryz.underlying2 (hval 0 2 v0 rfl rfl) h0
  have hr0 : -9223372036854775808 ≤ s0 ∧ s0 ≤ 9223372036854775807 := by
    have := hs0
    simp only [Lit.wf, IntKind.min, IntKind.max, IntKind.signed, IntKind.bits, Bool.and_eq_true, decide_eq_true_eq] at this
    simpa using this
  obtain ⟨s1, rfl, rfl, rfl, hs1⟩ := open_int Tryz.underlying2 (hval 1 2 v1 rfl rfl) h1
  have hr1 : -9223372036854775808 ≤ s1 ∧ s1 ≤ 9223372036854775807 := by
    have := hs1
    simp only [Lit.wf, IntKind.min, IntKind.max, IntKind.signed, IntKind.bits, Bool.and_eq_true, decide_eq_true_eq] at this
    simpa using this
  clear hA0
  have walk := Sym.makes_walk s0 s1 hr0.1 hr0.2 hr1.1 hr1.2 W  hG
  refine walk.mono fun e W' ⟨he, hb⟩ => ?_
  subst he
  refine ⟨_, rfl, _, _, _, [], [], [], hW', ?_, ?_, ?_, hb.frame _, fun h => by cases h⟩
  · exact trodAll_cons_mk (shut_bool Tryz.underlying4 _) trodAll_mk0
  · exact trodAll_cons_mk (shut_int Tryz.underlying2 hs0) (trodAll_cons_mk (shut_int Tryz.underlying2 hs1) (trodAll_mk0))
  · trivial

theorem reads (os : Os) {H : Type} (enc : TypeId × Value → H) : ∃ places, DataW.whole enc Tryz.prog ((World.doorLaid Tryz.prog 400 os).forCall (fun _ _ => 0) ⟨#[], #[.int .i64 0, .int .i64 0], []⟩).memory Tryz.f4.params.toList Rows.exactMakesSpec.vars false #[Value.int .i64 0, Value.int .i64 0].toList 8 = some ([.lit (.int .i64 0), .lit (.int .i64 0)], [], places) :=
  ⟨[], by kernel_rfl⟩

set_option maxRecDepth 100000 in
theorem lifted (os : Os) (started : os.Started) (H : Type) (enc : TypeId × Value → H) (F : Stop.Interp) :
    ReturnsInHanded {} Tryz.checked os 4 .any ((OpenSpec.ofChange Rows.exactMakesSpec).preRow enc Tryz.prog Tryz.f4 Rows.exactMakesRow.domain false Rows.exactMakesRow.laid) (((OpenSpec.ofChange Rows.exactMakesSpec).at F).post enc Tryz.prog Tryz.f4 false true false false) := by
  obtain ⟨places, hx⟩ := reads os enc
  refine returnsInHanded_of_row (C := Tryz.checked) (s := OpenSpec.ofChange Rows.exactMakesSpec) own started (by kernel_rfl) Tryz.func4
    (witness_row_atRef (enc := enc) (C := Tryz.checked) false (World.doorLaid Tryz.prog 400 os) #[Value.int .i64 0, Value.int .i64 0] rfl (by kernel_rfl) (by kernel_rfl) (by kernel_rfl)
      (OpenSpec.preRow_of_cond 8 hx (by kernel_rfl) (fun k hk => by cases hk) (by kernel_rfl) (door_met os _))) ?_
  intro W base args ds gs before hval hW _ _ _ hL hS _
  exact contract H enc W base args ds gs before hval hW (gr_of_laid hL hS)

theorem said : Rows.ExactMakesSaid :=
  OpenClaim.holds_of_cond 4 Tryz.f4 rfl rfl rfl rfl rfl rfl rfl ⟨rfl, rfl, rfl, rfl, rfl⟩ rfl rfl rfl rfl rfl (by kernel_rfl) Tryz.func4 (by kernel_rfl)
    (of_decide_eq_true (by kernel_rfl)) (by unfold Func.isWrapper; first | (rw [if_pos (by decide +kernel)]; kernel_rfl) | (rw [if_neg (by decide +kernel)]; exact ⟨rfl, rfl⟩))
    (fun os started H enc _ F => by rw [OpenClaim.pre_eq_preRow]; exact lifted os started H enc F)

theorem plain (f : FuncId) (fn : Func) (hf : Tryz.pinned.checked.prog.funcNamed "voussoir/voussoirlaw01.ExactMakes" = some f) (hfn : Tryz.pinned.checked.prog.funcs[f]? = some fn) :
    true = Tryz.pinned.checked.prog.looks [] ∧ ∀ (j : Nat) t, fn.params[j]? = some t → Tryz.pinned.checked.prog.wantsStandIn t = false := by
  obtain rfl : f = 4 := Option.some.inj ((show Tryz.prog.funcNamed "voussoir/voussoirlaw01.ExactMakes" = some 4 by kernel_rfl).symm.trans hf) |>.symm
  obtain rfl : fn = Tryz.f4 := (Option.some.inj (Tryz.func4.symm.trans hfn)).symm
  refine ⟨by kernel_rfl, fun j t ht => ?_⟩
  rw [Tryz.params4] at ht
  have hm : t ∈ [2, 2] := by simpa using Array.mem_of_getElem? ht
  have hall : ([2, 2].all fun u => !Tryz.prog.wantsStandIn u) = true := by kernel_rfl
  exact (show Tryz.prog.wantsStandIn t = false by simpa using List.all_eq_true.1 hall t hm)

theorem card : Rows.ExactMakesCardSaid :=
  Claim7.holds_tied_plain_at .later [] _ _ _ _ said (fun _ h => by cases h) (by kernel_rfl) (fun _ h => by cases h) exactMakes_row_tie rfl ⟨rfl, rfl⟩ (by kernel_rfl) rfl plain (by kernel_rfl)
end lawExactMakes
end Go.Proofs.YtccabfblgjcboaaGreatDoor
