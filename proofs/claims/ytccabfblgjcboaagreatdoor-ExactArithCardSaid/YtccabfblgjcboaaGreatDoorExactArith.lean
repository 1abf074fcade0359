/- ExactArith: for all texts the call returns true: sums, differences, products, quotients, the order, signs, parts, bounds and the way back of any two numbers are those of the document. No condition. -/
import Derived.Test.YtccabfblgjcboaaGreatDoorJ5
import Derived.Test.YtccabfblgjcboaaGreatDoorJF
set_option linter.unusedVariables false
set_option linter.unusedSimpArgs false

/- ExactArith: for all texts the call returns true: sums, differences, products, quotients, the order, signs, parts, bounds and the way back of any two numbers are those of the document. No condition. -/
namespace Go.Proofs.YtccabfblgjcboaaGreatDoor
open Go Go.RowKit Go.Proofs Lim
namespace Sym
section
variable {csz : List Nat} {numc : List Bool} {okT : List Nat} {nt : Nat} {cl : List Cl} {w0 : World} {w : World} {v z : Value} {p1 p2 p3 p4 : Pat} {res : RPat} {c d c1 c2 c3 c4 c5 c6 : Nat} {a b l : List UInt8} {r s : Rat} {k k1 k2 k3 : Nat} {i j : Int}
theorem e_cmpx (h1 : PQ csz numc okT nt cl w0 p1 r k1) (h2 : PQ csz numc okT nt cl w0 p2 s k2) (hk : fits (k1 + k2) 1000000 = true) (h3 : RV csz numc okT nt cl w0 res (ii (cmpQ r s))) : V csz numc okT nt cl w0 (.call 31) [p1, p2] res := by
  have hk := fits_le hk
  refine ⟨enters_of Tryz.func31 (by kernel_rfl) rfl, fun w vs hb hvs => ?_⟩
  obtain ⟨v1, _, rfl, h4, v2, _, rfl, h5, rfl⟩ := hvs
  refine (cmp_q v1 v2 r s (k1 + k2) w (h1 _ _ h4).1 (h2 _ _ h5).1 ((h1 _ _ h4).2.le (by omega)) ((h2 _ _ h5).2.le (by omega)) (by omega)).mono ?_
  rintro e w' ⟨rfl, hb'⟩
  exact ⟨_, rfl, h3 w', hb'⟩
theorem e_rcmpx (h1 : PR csz numc okT nt cl w0 p1 r k1) (h2 : PR csz numc okT nt cl w0 p2 s k2) (hk : fitr (k1 + k2) 10000 = true) (h3 : RV csz numc okT nt cl w0 res (ii (cmpQ r s))) : V csz numc okT nt cl w0 (.call 32) [p1, p2] res := by
  have hk := fitr_le hk
  refine ⟨enters_of Tryz.func32 (by kernel_rfl) rfl, fun w vs hb hvs => ?_⟩
  obtain ⟨v1, _, rfl, h4, v2, _, rfl, h5, rfl⟩ := hvs
  refine (rcmp_q v1 v2 r s (k1 + k2) w (h1 _ _ h4).1 (h2 _ _ h5).1 ((h1 _ _ h4).2.le (by omega)) ((h2 _ _ h5).2.le (by omega)) (by omega)).mono ?_
  rintro e w' ⟨rfl, hb'⟩
  exact ⟨_, rfl, h3 w', hb'⟩
theorem e_signx (h1 : PQ csz numc okT nt cl w0 p1 r k1) (h3 : RV csz numc okT nt cl w0 res (ii (sign r))) : V csz numc okT nt cl w0 (.call 19) [p1] res := by
  refine ⟨enters_of Tryz.func19 (by kernel_rfl) rfl, fun w vs hb hvs => ?_⟩
  obtain ⟨v1, _, rfl, h4, rfl⟩ := hvs
  refine (sign_q v1 r w (h1 _ _ h4).1).mono ?_
  rintro e w' ⟨rfl, hb'⟩
  exact ⟨_, rfl, h3 w', hb'⟩
theorem e_rsignx (h1 : PR csz numc okT nt cl w0 p1 r k1) (h3 : RV csz numc okT nt cl w0 res (ii (sign r))) : V csz numc okT nt cl w0 (.call 33) [p1] res := by
  refine ⟨enters_of Tryz.func33 (by kernel_rfl) rfl, fun w vs hb hvs => ?_⟩
  obtain ⟨v1, _, rfl, h4, rfl⟩ := hvs
  refine (rsign_q v1 r w (h1 _ _ h4).1).mono ?_
  rintro e w' ⟨rfl, hb'⟩
  exact ⟨_, rfl, h3 w', hb'⟩
end
theorem both_ok (l : List UInt8) (r : Rat) (k : Nat) (w : World) (hG : Gr w) (hl : l.length ≤ 100000) (hr : (readQ l).1 = r) (z : Siz r k) : Calls Tryz.prog 24 #[str l] w (fun e w' => ∃ x y, e = .returned (.tuple #[x, y]) ∧ IsQ w' x r ∧ RQ w' y r ∧ Below w.heap.size w w') := by
  have hC : (mkC [1, 4, 3, 1] [true, true, true, true] [26, 33] 20 [clV (str l), clQ r k, clR r k, clV (ii (readQ l).2)] w).Ok := mkC_ok (oks_cons (clVs_ok _) (oks_cons (clQ_ok qrT.1 _ _) (oks_cons (clR_ok qrT.2 _ _) (oks_cons (clVi_ok _) oks_nil)))) rfl rfl
  have hT : ∀ t ∈ ([⟨.call 11, [op 0], .tup [qp 1, op 3]⟩, ⟨.call 12, [op 0], .tup [rq 2, op 3]⟩] : List Ent), t.Valid (mkC [1, 4, 3, 1] [true, true, true, true] [26, 33] 20 [clV (str l), clQ r k, clR r k, clV (ii (readQ l).2)] w) :=
    forall_cons (e_read hG hl (pv rfl) hr rfl z rfl (fun _ => (op_is rfl).2 rfl)) (forall_cons (e_rread (pv rfl) hr rfl z rfl (fun _ => (op_is rfl).2 rfl)) forall_nil)
  refine (run_mk hC hT 24 Tryz.f24 [op 0] (.tup [qp 1, rq 2]) 60 Tryz.func24 rfl rfl rfl (by kernel_rfl) [str l] ⟨_, _, rfl, (op_is rfl).2 rfl, rfl⟩).mono ?_
  rintro e w' ⟨v, rfl, ⟨vs, ⟨v1, _, rfl, g1, v2, _, rfl, g2, rfl⟩, rfl⟩, hb⟩
  exact ⟨v1, v2, rfl, ((qp_is rfl).1 g1).1, ((rq_is rfl).1 g2).1, hb⟩
section
variable {csz : List Nat} {numc : List Bool} {okT : List Nat} {nt : Nat} {cl : List Cl} {w0 : World} {w : World} {p1 p2 : Pat} {c1 c2 : Nat} {l : List UInt8} {r : Rat} {k1 k2 : Nat}
theorem e_both (hG : Gr w0) (hl : l.length ≤ 100000) (h1 : PV csz numc okT nt cl w0 p1 (str l)) (hr : (readQ l).1 = r) (z : Siz r k1) (h2 : cl[c1]? = some (clQ r k1)) (h3 : cl[c2]? = some (clR r k1)) : V csz numc okT nt cl w0 (.call 24) [p1] (.tup [qp c1, rq c2]) := by
  refine ⟨enters_of Tryz.func24 (by kernel_rfl) rfl, fun w vs hb hvs => ?_⟩
  obtain ⟨v1, _, rfl, h4, rfl⟩ := hvs
  obtain rfl := h1 _ _ h4
  refine (both_ok l r k1 w (hG.below hb hG.size) hl hr z).mono ?_
  rintro e w' ⟨x, y, rfl, g1, g2, hb'⟩
  exact ⟨_, rfl, ⟨_, ⟨_, _, rfl, (qp_is h2).2 ⟨g1, z⟩, _, _, rfl, (rq_is h3).2 ⟨g2, z⟩, rfl⟩, rfl⟩, hb'⟩
end
abbrev cl_ar (la lb : List UInt8) (r s o : Rat) : List Cl := [clV (str la), clV (str lb), clQ r 7, clR r 7, clQ s 7, clR s 7, clQ (r + s) 15, clR (r + s) 15, clQ (r - s) 15, clR (r - s) 15, clQ (r * s) 14, clR (r * s) 14, clV (ii (cmpQ r s)), clV (ii (sign r)), clQ o 300000, clR o 14, clV (ii (if isI64 r then r.num else 0)), clV (.bool (isI64 r)),
  clQ (-r) 7, clR (-r) 7, clQ (absQ r) 7, clR (absQ r) 7, clQ ((r.floor : Int) : Rat) 9, clR ((r.floor : Int) : Rat) 9, clQ ((r.ceil : Int) : Rat) 9, clR ((r.ceil : Int) : Rat) 9]
noncomputable abbrev C_ar (la lb : List UInt8) (r s o : Rat) (w : World) : Ctx := mkC [1, 1, 4, 3, 4, 3, 4, 3, 4, 3, 4, 3, 1, 1, 4, 3, 1, 1, 4, 3, 4, 3, 4, 3, 4, 3] [true, true, true, true, true, true, true, true, true, true, true, true, true, true, true, true, true, true, true, true, true, true, true, true, true, true] [26, 33] 169 (cl_ar la lb r s o) w
theorem ar_C (la lb : List UInt8) (r s o : Rat) (w : World) : (C_ar la lb r s o w).Ok := by
  have q := fun r k => clQ_ok (okT := [26, 33]) (B := w.heap.size) qrT.1 r k
  have p := fun r k => clR_ok (okT := [26, 33]) (B := w.heap.size) qrT.2 r k
  exact mkC_ok (oks_cons (clVs_ok _) (oks_cons (clVs_ok _) (oks_cons (q _ _) (oks_cons (p _ _) (oks_cons (q _ _) (oks_cons (p _ _) (oks_cons (q _ _) (oks_cons (p _ _) (oks_cons (q _ _) (oks_cons (p _ _) (oks_cons (q _ _) (oks_cons (p _ _) (oks_cons (clVi_ok _) (oks_cons (clVi_ok _) (oks_cons (q _ _) (oks_cons (p _ _) (oks_cons (clVi_ok _) (oks_cons (clVb_ok _)
    (oks_cons (q _ _) (oks_cons (p _ _) (oks_cons (q _ _) (oks_cons (p _ _) (oks_cons (q _ _) (oks_cons (p _ _) (oks_cons (q _ _) (oks_cons (p _ _) oks_nil)))))))))))))))))))))))))) rfl rfl
def t_ar0 (b : Bool) : List Ent := [⟨.call 23, [.slc 9 2 [.cls 0 1, .cls 1 1]], .val (vp (.bool b))⟩, ⟨.call 10, [], .val (vp (.bool true))⟩]
def t_ar1 : List Ent := [⟨.call 24, [op 0], .tup [qp 2, rq 3]⟩, ⟨.call 24, [op 1], .tup [qp 4, rq 5]⟩, ⟨.call 25, [qp 2, qp 4], .val (qp 6)⟩, ⟨.call 26, [rq 3, rq 5], .val (rq 7)⟩, ⟨.call 13, [qp 6, rq 7], .val (vp (.bool true))⟩,
  ⟨.call 27, [qp 2, qp 4], .val (qp 8)⟩, ⟨.call 28, [rq 3, rq 5], .val (rq 9)⟩, ⟨.call 13, [qp 8, rq 9], .val (vp (.bool true))⟩, ⟨.call 29, [qp 2, qp 4], .val (qp 10)⟩, ⟨.call 30, [rq 3, rq 5], .val (rq 11)⟩, ⟨.call 13, [qp 10, rq 11], .val (vp (.bool true))⟩,
  ⟨.call 31, [qp 2, qp 4], .val (op 12)⟩, ⟨.call 32, [rq 3, rq 5], .val (op 12)⟩, ⟨.bin .neq 3, [op 12, op 12], .val (vp (.bool false))⟩, ⟨.call 33, [rq 3], .val (op 13)⟩, ⟨.bin .neq 3, [op 13, op 13], .val (vp (.bool false))⟩]
def t_ar2 : List Ent := [⟨.call 17, [qp 2], .tup [op 16, op 17]⟩, ⟨.call 21, [rq 3], .tup [op 16, op 17]⟩, ⟨.bin .eql 2, [op 16, op 16], .val (vp (.bool true))⟩, ⟨.bin .eql 4, [op 17, op 17], .val (vp (.bool true))⟩,
  ⟨.call 37, [qp 2], .val (qp 18)⟩, ⟨.call 38, [rq 3], .val (rq 19)⟩, ⟨.call 13, [qp 18, rq 19], .val (vp (.bool true))⟩, ⟨.call 39, [qp 2], .val (qp 20)⟩, ⟨.call 40, [rq 3], .val (rq 21)⟩, ⟨.call 13, [qp 20, rq 21], .val (vp (.bool true))⟩,
  ⟨.call 41, [qp 2], .val (qp 22)⟩, ⟨.call 42, [rq 3], .val (rq 23)⟩, ⟨.call 13, [qp 22, rq 23], .val (vp (.bool true))⟩, ⟨.call 43, [qp 2], .val (qp 24)⟩, ⟨.call 44, [rq 3], .val (rq 25)⟩, ⟨.call 13, [qp 24, rq 25], .val (vp (.bool true))⟩,
  ⟨.call 13, [qp 2, rq 3], .val (vp (.bool true))⟩, ⟨.call 13, [qp 4, rq 5], .val (vp (.bool true))⟩]
def t_arZ : List Ent := [⟨.call 34, [qp 2, qp 4], .tup [qp 14, vp (.int .i64 10)]⟩, ⟨.call 35, [rq 5], .val (vp (.bool true))⟩, ⟨.call 19, [qp 14], .val (vp (.int .i64 0))⟩, ⟨.call 19, [qp 2], .val (op 13)⟩]
def t_arN : List Ent := [⟨.call 34, [qp 2, qp 4], .tup [qp 14, vp (.int .i64 0)]⟩, ⟨.call 35, [rq 5], .val (vp (.bool false))⟩, ⟨.call 36, [rq 3, rq 5], .val (rq 15)⟩, ⟨.call 13, [qp 14, rq 15], .val (vp (.bool true))⟩, ⟨.call 19, [qp 2], .val (op 13)⟩]
section
variable {la lb : List UInt8} {r s o : Rat} {w : World}
theorem ar0_T (hG : Gr w) {b : Bool} (h : [la, lb].any (fun x => decide (120 < x.length)) = b) : ∀ t ∈ t_ar0 b, t.Valid (C_ar la lb r s o w) :=
  forall_cons (e_long (ls := [la, lb]) ⟨_, _, rfl, rfl, ⟨_, _, rfl, rfl, rfl⟩⟩ rfl rfl h) (forall_cons (e_known hG) forall_nil)
theorem ar1_T (hG : Gr w) (ha : la.length ≤ 120) (hb : lb.length ≤ 120) (hr : (readQ la).1 = r) (hs : (readQ lb).1 = s) : ∀ t ∈ t_ar1, t.Valid (C_ar la lb r s o w) := by
  have z1 : Siz r 7 := hr ▸ Siz.read la (L := 120) ha (by decide) (by decide)
  have z2 : Siz s 7 := hs ▸ Siz.read lb (L := 120) hb (by decide) (by decide)
  exact forall_cons (e_both hG (by omega) (pv rfl) hr z1 rfl rfl) (forall_cons (e_both hG (by omega) (pv rfl) hs z2 rfl rfl) (forall_cons (e_plus hG (pq rfl) (pq rfl) rfl rfl) (forall_cons (e_radd (pr rfl) (pr rfl) rfl rfl) (forall_cons (e_same (pq rfl) (pr rfl) rfl (decide_eq_true rfl))
    (forall_cons (e_minus hG (pq rfl) (pq rfl) rfl rfl) (forall_cons (e_rsub (pr rfl) (pr rfl) rfl rfl rfl) (forall_cons (e_same (pq rfl) (pr rfl) rfl (decide_eq_true rfl)) (forall_cons (e_times hG (pq rfl) (pq rfl) rfl rfl) (forall_cons (e_rmul (pr rfl) (pr rfl) rfl rfl) (forall_cons (e_same (pq rfl) (pr rfl) rfl (decide_eq_true rfl))
      (forall_cons (e_cmpx (pq rfl) (pq rfl) rfl (rv rfl)) (forall_cons (e_rcmpx (pr rfl) (pr rfl) rfl (rv rfl)) (forall_cons (e_neqk (pv rfl) (pv rfl) (by simp)) (forall_cons (e_rsignx (pr rfl) (rv rfl)) (forall_cons (e_neqk (pv rfl) (pv rfl) (by simp)) forall_nil)))))))))))))))
theorem ar2_T (hG : Gr w) : ∀ t ∈ t_ar2, t.Valid (C_ar la lb r s o w) :=
  forall_cons (e_int64 (pq rfl) rfl rfl (fun _ => (op_is rfl).2 rfl) (fun _ => (op_is rfl).2 rfl)) (forall_cons (e_rint64 (pr rfl) (by decide) rfl rfl (fun _ => (op_is rfl).2 rfl) (fun _ => (op_is rfl).2 rfl)) (forall_cons (e_eql (pv rfl) (pv rfl) (decide_eq_true rfl)) (forall_cons (e_eqb (pv rfl) (pv rfl) (by simp))
    (forall_cons (e_neg (pq rfl) rfl rfl) (forall_cons (e_rneg (pr rfl) rfl rfl) (forall_cons (e_same (pq rfl) (pr rfl) rfl (decide_eq_true rfl)) (forall_cons (e_abs (pq rfl) rfl rfl) (forall_cons (e_rabs (pr rfl) rfl rfl) (forall_cons (e_same (pq rfl) (pr rfl) rfl (decide_eq_true rfl))
      (forall_cons (e_floor hG (pq rfl) rfl rfl rfl) (forall_cons (e_rfloor (pr rfl) rfl rfl rfl) (forall_cons (e_same (pq rfl) (pr rfl) rfl (decide_eq_true rfl)) (forall_cons (e_ceil hG (pq rfl) rfl rfl rfl) (forall_cons (e_rceil (pr rfl) rfl rfl rfl rfl) (forall_cons (e_same (pq rfl) (pr rfl) rfl (decide_eq_true rfl))
        (forall_cons (e_same (pq rfl) (pr rfl) rfl (decide_eq_true rfl)) (forall_cons (e_same (pq rfl) (pr rfl) rfl (decide_eq_true rfl)) forall_nil)))))))))))))))))
theorem arZ_T (hs : s = 0) (ho : o = 0) : ∀ t ∈ t_arZ, t.Valid (C_ar la lb r s o w) := by
  subst ho
  exact forall_cons (e_over0 (pq rfl) (pq rfl) rfl rfl hs) (forall_cons (e_riszero (pr rfl) (decide_eq_true hs)) (forall_cons (e_sign (pq rfl) (by rfl)) (forall_cons (e_signx (pq rfl) (rv rfl)) forall_nil)))
theorem arN_T (hG : Gr w) (hs : s ≠ 0) (ho : o = r / s) : ∀ t ∈ t_arN, t.Valid (C_ar la lb r s o w) := by
  subst ho
  exact forall_cons (e_over hG (pq rfl) (pq rfl) rfl rfl hs) (forall_cons (e_riszero (pr rfl) (decide_eq_false hs)) (forall_cons (e_rdiv (fun h => hs (Rat.num_eq_zero.1 h)) (pr rfl) (pr rfl) rfl rfl) (forall_cons (e_same (pq rfl) (pr rfl) rfl (decide_eq_true rfl)) (forall_cons (e_signx (pq rfl) (rv rfl)) forall_nil))))
end
set_option maxRecDepth 100000 in
theorem arith_walk (la lb : List UInt8) (w : World) (hG : Gr w) : Calls Tryz.prog 5 #[str la, str lb] w (Go.Proofs.YtccabfblgjcboaaGreatDoor.Val w (.bool true)) := by
  have go : ∀ {r s o : Rat} {T : List Ent}, (∀ t ∈ T, t.Valid (C_ar la lb r s o w)) → runB (C_ar la lb r s o w).toStat T 200 (bodyOf Tryz.f5) Tryz.f5.results.toList [op 0, op 1] (.val (vp (.bool true))) = true → Calls Tryz.prog 5 #[str la, str lb] w (Go.Proofs.YtccabfblgjcboaaGreatDoor.Val w (.bool true)) := by
    intro r s o T hT hrun
    refine (run_mk (ar_C la lb r s o w) hT 5 Tryz.f5 [op 0, op 1] (.val (vp (.bool true))) 200 Tryz.func5 rfl rfl rfl hrun [str la, str lb] ⟨_, _, rfl, (op_is rfl).2 rfl, _, _, rfl, (op_is rfl).2 rfl, rfl⟩).mono ?_
    rintro e w' ⟨v, rfl, hv, hb⟩
    rw [val_of hv]
    exact ⟨rfl, hb⟩
  cases h : [la, lb].any (fun x => decide (120 < x.length)) with
  | true => exact go (r := 0) (s := 0) (o := 0) (ar0_T hG h) (by kernel_rfl)
  | false =>
    have hl : la.length ≤ 120 ∧ lb.length ≤ 120 := by
      simp at h
      omega
    obtain ⟨r, hr⟩ : ∃ r, (readQ la).1 = r := ⟨_, rfl⟩
    obtain ⟨s, hs⟩ : ∃ s, (readQ lb).1 = s := ⟨_, rfl⟩
    by_cases h0 : s = 0
    · exact go (t_app (ar0_T hG h) (t_app (ar1_T hG hl.1 hl.2 hr hs) (t_app (ar2_T hG) (arZ_T h0 rfl)))) (by kernel_rfl)
    · exact go (t_app (ar0_T hG h) (t_app (ar1_T hG hl.1 hl.2 hr hs) (t_app (ar2_T hG) (arN_T hG h0 rfl)))) (by kernel_rfl)
end Sym
end Go.Proofs.YtccabfblgjcboaaGreatDoor

/- ExactArith: the statement, out of the walk. -/
namespace Go.Proofs.YtccabfblgjcboaaGreatDoor
open Go Go.RowKit Go.Proofs Lim
open Go.ChangeShapes Go.WideShapes Go.ChangeAt Go.ChangeMaps

namespace lawExactArith

set_option maxRecDepth 100000 in
theorem contract (H : Type) (enc : TypeId × Value → H) (W : World) (base : Nat) (args : Array Value) (ds gs : List (DataW H)) (before : List MemPlace)
    (hval : ∀ (j : Nat) t v, Tryz.f5.params[j]? = some t → args[j]? = some v → Value.okWide Tryz.prog W .any base t v)
    (hW : DataW.Whole enc Tryz.prog Tryz.f5.params.toList Rows.exactArithSpec.vars false W args.toList ds gs before) (hG : Gr W) :
    Calls Tryz.prog 5 args W fun e W' => ∃ v, e = .returned v ∧ Rows.exactArithSpec.post enc Tryz.prog Tryz.f5 false true false false W args v W' := by
  have hW' := hW
  obtain ⟨p, q, hA0, hV, rfl, hfz, hnd⟩ := hW
  have hA : DataW.TrodAll enc Tryz.prog W 0 (fun _ => true) true Tryz.f5.params.toList args.toList ds p := hA0
  rw [Tryz.params5] at hA hval
  obtain ⟨v0, vs0, d0, ds0, p0, q0, hargs0, rfl, rfl, h0, r0⟩ := trodAll_cons hA
  obtain ⟨v1, vs1, d1, ds1, p1, q1, hargs1, rfl, rfl, h1, r1⟩ := trodAll_cons r0
  obtain ⟨rfl, rfl, rfl⟩ := trodAll_nil r1
  obtain rfl : args = #[v0, v1] := by cases args; simp_all
  obtain ⟨rfl, rfl⟩ := trodVars_none hV
  obtain ⟨s0, rfl, rfl, rfl, hs0⟩ := open_string Tryz.underlying9 (hval 0 9 v0 rfl rfl) h0
  obtain ⟨s1, rfl, rfl, rfl, hs1⟩ := open_string Tryz.underlying9 (hval 1 9 v1 rfl rfl) h1
  clear hA0
  have walk := Sym.arith_walk s0.data.toList s1.data.toList W  hG
  refine walk.mono fun e W' ⟨he, hb⟩ => ?_
  subst he
  refine ⟨_, rfl, _, _, _, [], [], [], hW', ?_, ?_, ?_, hb.frame _, fun h => by cases h⟩
  · exact trodAll_cons_mk (shut_bool Tryz.underlying4 _) trodAll_mk0
  · exact trodAll_cons_mk (shut_string Tryz.underlying9 hs0) (trodAll_cons_mk (shut_string Tryz.underlying9 hs1) (trodAll_mk0))
  · trivial

theorem reads (os : Os) {H : Type} (enc : TypeId × Value → H) : ∃ places, DataW.whole enc Tryz.prog ((World.doorLaid Tryz.prog 400 os).forCall (fun _ _ => 0) ⟨#[], #[.string ⟨#[]⟩, .string ⟨#[]⟩], []⟩).memory Tryz.f5.params.toList Rows.exactArithSpec.vars false #[Value.string ⟨#[]⟩, Value.string ⟨#[]⟩].toList 8 = some ([.lit (.string []), .lit (.string [])], [], places) :=
  ⟨[], by kernel_rfl⟩

set_option maxRecDepth 100000 in
theorem lifted (os : Os) (started : os.Started) (H : Type) (enc : TypeId × Value → H) (F : Stop.Interp) :
    ReturnsInHanded {} Tryz.checked os 5 .any ((OpenSpec.ofChange Rows.exactArithSpec).preRow enc Tryz.prog Tryz.f5 Rows.exactArithRow.domain false Rows.exactArithRow.laid) (((OpenSpec.ofChange Rows.exactArithSpec).at F).post enc Tryz.prog Tryz.f5 false true false false) := by
  obtain ⟨places, hx⟩ := reads os enc
  refine returnsInHanded_of_row (C := Tryz.checked) (s := OpenSpec.ofChange Rows.exactArithSpec) own started (by kernel_rfl) Tryz.func5
    (witness_row_atRef (enc := enc) (C := Tryz.checked) false (World.doorLaid Tryz.prog 400 os) #[Value.string ⟨#[]⟩, Value.string ⟨#[]⟩] rfl (by kernel_rfl) (by kernel_rfl) (by kernel_rfl)
      (OpenSpec.preRow_of_cond 8 hx (by kernel_rfl) (fun k hk => by cases hk) (by kernel_rfl) (door_met os _))) ?_
  intro W base args ds gs before hval hW _ _ _ hL hS _
  exact contract H enc W base args ds gs before hval hW (gr_of_laid hL hS)

theorem said : Rows.ExactArithSaid :=
  OpenClaim.holds_of_cond 5 Tryz.f5 rfl rfl rfl rfl rfl rfl rfl ⟨rfl, rfl, rfl, rfl, rfl⟩ rfl rfl rfl rfl rfl (by kernel_rfl) Tryz.func5 (by kernel_rfl)
    (of_decide_eq_true (by kernel_rfl)) (by unfold Func.isWrapper; first | (rw [if_pos (by decide +kernel)]; kernel_rfl) | (rw [if_neg (by decide +kernel)]; exact ⟨rfl, rfl⟩))
    (fun os started H enc _ F => by rw [OpenClaim.pre_eq_preRow]; exact lifted os started H enc F)

theorem plain (f : FuncId) (fn : Func) (hf : Tryz.pinned.checked.prog.funcNamed "voussoir/voussoirlaw01.ExactArith" = some f) (hfn : Tryz.pinned.checked.prog.funcs[f]? = some fn) :
    true = Tryz.pinned.checked.prog.looks [] ∧ ∀ (j : Nat) t, fn.params[j]? = some t → Tryz.pinned.checked.prog.wantsStandIn t = false := by
  obtain rfl : f = 5 := Option.some.inj ((show Tryz.prog.funcNamed "voussoir/voussoirlaw01.ExactArith" = some 5 by kernel_rfl).symm.trans hf) |>.symm
  obtain rfl : fn = Tryz.f5 := (Option.some.inj (Tryz.func5.symm.trans hfn)).symm
  refine ⟨by kernel_rfl, fun j t ht => ?_⟩
  rw [Tryz.params5] at ht
  have hm : t ∈ [9, 9] := by simpa using Array.mem_of_getElem? ht
  have hall : ([9, 9].all fun u => !Tryz.prog.wantsStandIn u) = true := by kernel_rfl
  exact (show Tryz.prog.wantsStandIn t = false by simpa using List.all_eq_true.1 hall t hm)

theorem card : Rows.ExactArithCardSaid :=
  Claim7.holds_tied_plain_at .later [] _ _ _ _ said (fun _ h => by cases h) (by kernel_rfl) (fun _ h => by cases h) exactArith_row_tie rfl ⟨rfl, rfl⟩ (by kernel_rfl) rfl plain (by kernel_rfl)
end lawExactArith
end Go.Proofs.YtccabfblgjcboaaGreatDoor
