/- ExactArith: for all texts the call returns true: sums, differences, products, quotients, the order, signs, parts, bounds and the way back of any two numbers are those of the document. No condition. -/
import Derived.Test.YtccabfblgjcboaaGreatDoorJ5
import Derived.Test.YtccabfblgjcboaaGreatDoorJF
set_option linter.unusedVariables false
set_option linter.unusedSimpArgs false

/- ExactArith: for all texts the call returns true: sums, differences, products, quotients, the order, signs, parts, bounds and the way back of any two numbers are those of the document. No condition. -/
namespace Go.Proofs.YtccabfblgjcboaaGreatDoor
open Go Go.RowKit Go.Proofs Lim
namespace Sym
section
variable {csz : List Nat} {numc : List Bool} {okT : List Nat} {nt : Nat} {cl : List Cl} {w0 : World} {w : World} {v z : Value} {p1 p2 p3 p4 : Pat} {res : RPat} {c d c1 c2 c3 c4 c5 c6 : Nat} {a b l : List UInt8} {r s : Rat} {k k1 k2 k3 : Nat} {i j : Int}
theorem e_cmpx (h1 : PQ csz numc okT nt cl w0 p1 r k1) (h2 : PQ csz numc okT nt cl w0 p2 s k2) (hk : fits (k1 + k2) 1000000 = true) (h3 : RV csz numc okT nt cl w0 res (ii (cmpQ r s))) : V csz numc okT nt cl w0 (.call 31) [p1, p2] res := by
  have hk := fits_le hk
  refine ⟨enters_of Tryz.func31 (by kernel_rfl) rfl, fun w vs hb hvs => ?_⟩
  obtain ⟨v1, _, rfl, h4, v2, _, rfl, h5, rfl⟩ := hvs
  refine (cmp_q v1 v2 r s (k1 + k2) w (h1 _ _ h4).1 (h2 _ _ h5).1 ((h1 _ _ h4).2.le (by omega)) ((h2 _ _ h5).2.le (by omega)) (by omega)).mono ?_
  rintro e w' ⟨rfl, hb'⟩
  exact ⟨_, rfl, h3 w', hb'⟩
theorem e_rcmpx (h1 : PR csz numc okT nt cl w0 p1 r k1) (h2 : PR csz numc okT nt cl w0 p2 s k2) (hk : fitr (k1 + k2) 10000 = true) (h3 : RV csz numc okT nt cl w0 res (ii (cmpQ r s))) : V csz numc okT nt cl w0 (.call 32) [p1, p2] res := by
  have hk := fitr_le hk
  refine ⟨enters_of Tryz.func32 (by kernel_rfl) rfl, fun w vs hb hvs => ?_⟩
  obtain ⟨v1, _, rfl, h4, v2, _, rfl, h5, rfl⟩ := hvs
  refine (rcmp_q v1 v2 r s (k1 + k2) w (h1 _ _ h4).1 (h2 _ _ h5).1 ((h1 _ _ h4).2.le (by omega)) ((h2 _ _ h5).2.le (by omega)) (by omega)).mono ?_
  rintro e w' ⟨rfl, hb'⟩
  exact ⟨_, rfl, h3 w', hb'⟩
theorem e_signx (h1 : PQ csz numc okT nt cl w0 p1 r k1) (h3 : RV csz numc okT nt cl w0 res (ii (sign r))) : V csz numc okT nt cl w0 (.call 19) [p1] res := by
  refine ⟨enters_of Tryz.func19 (by kernel_rfl) rfl, fun w vs hb hvs => ?_⟩
  obtain ⟨v1, _, rfl, h4, rfl⟩ := hvs
  refine (sign_q v1 r w (h1 _ _ h4).1).mono ?_
  rintro e w' ⟨rfl, hb'⟩
  exact ⟨_, rfl, h3 w', hb'⟩
theorem e_rsignx (h1 : PR csz numc okT nt cl w0 p1 r k1) (h3 : RV csz numc okT nt cl w0 res (ii (sign r))) : V csz numc okT nt cl w0 (.call 33) [p1] res := by
  refine ⟨enters_of Tryz.func33 (by kernel_rfl) rfl, fun w vs hb hvs => ?_⟩
  obtain ⟨v1, _, rfl, h4, rfl⟩ := hvs
  refine (rsign_q v1 r w (h1 _ _ h4).1).mono ?_
  rintro e w' ⟨rfl, hb'⟩
  exact ⟨_, rfl, h3 w', hb'⟩
end
theorem both_ok (l : List UInt8) (r : Rat) (k : Nat) (w : World) (hG : Gr w) (hl : l.length ≤ 100000) (hr : (readQ l).1 = r) (z : Siz r k) : Calls Tryz.prog 24 #[str l] w (fun e w' => ∃ x y, e = .returned (.tuple #[x, y]) ∧ IsQ w' x r ∧ RQ w' y r ∧ Below w.heap.size w w') := by
  have hC : (mkC [1, 4, 3, 1] [true, true, true, true] [26, 33] 20 [clV (str l), clQ r k, clR r k, clV (ii (readQ l).2)] w).Ok := mkC_ok (oks_cons (clVs_ok _) (oks_cons (clQ_ok qrT.1 _ _) (oks_cons (clR_ok qrT.2 _ _) (oks_cons (clVi_ok _) oks_nil)))) rfl rfl
  have hT : ∀ t ∈ ([⟨.call 11, [op 0], .tup [qp 1, op 3]⟩, ⟨.call 12, [op 0], .tup [rq 2, op 3]⟩] : List Ent), t.Valid (mkC [1, 4, 3, 1] [true, true, true, true] [26, 33] 20 [clV (str l), clQ r k, clR r k, clV (ii (readQ l).2)] w) :=
    forall_cons (e_read hG hl (pv rfl) hr rfl z rfl (fun _ => (op_is rfl).2 rfl)) (forall_cons (e_rread (pv rfl) hr rfl z rfl (fun _ => (op_is rfl).2 rfl)) forall_nil)
  refine (run_mk hC hT 24 Tryz.f24 [op 0] (.tup [qp 1, rq 2]) 60 Tryz.func24 rfl rfl rfl (by kernel_rfl) [str l] ⟨_, _, rfl, (op_is rfl).2 rfl, rfl⟩).mono ?_
  rintro e w' ⟨v, rfl, ⟨vs, ⟨v1, _, rfl, g1, v2, _, rfl, g2, rfl⟩, rfl⟩, hb⟩
  exact ⟨v1, v2, rfl, ((qp_is rfl).1 g1).1, ((rq_is rfl).1 g2).1, hb⟩
section
variable {csz : List Nat} {numc : List Bool} {okT : List Nat} {nt : Nat} {cl : List Cl} {w0 : World} {w : World} {p1 p2 : Pat} {c1 c2 : Nat} {l : List UInt8} {r : Rat} {k1 k2 : Nat}
theorem e_both (hG : Gr w0) (hl : l.length ≤ 100000) (h1 : PV csz numc okT nt cl w0 p1 (str l)) (hr : (readQ l).1 = r) (z : Siz r k1) (h2 : cl[c1]? = some (clQ r k1)) (h3 : cl[c2]? = some (clR r k1)) : V csz numc okT nt cl w0 (.call 24) [p1] (.tup [qp c1, rq c2]) := by
  refine ⟨enters_of Tryz.func24 (by kernel_rfl) rfl, fun w vs hb hvs => ?_⟩
  obtain ⟨v1, _, rfl, h4, rfl⟩ := hvs
  obtain rfl := h1 _ _ h4
  refine (both_ok l r k1 w (hG.below hb hG.size) hl hr z).mono ?_
  rintro e w' ⟨x, y, rfl, g1, g2, hb'⟩
  exact ⟨_, rfl, ⟨_, ⟨_, _, rfl, (qp_is h2).2 ⟨g1, z⟩, _, _, rfl, (rq_is h3).2 ⟨g2, z⟩, rfl⟩, rfl⟩, hb'⟩
end
abbrev cl_ar (la lb : List UInt8) (r s o : Rat) : List Cl := [clV (str la), clV (str lb), clQ r 7, clR r 7, clQ s 7, clR s 7, clQ (r + s) 15, clR (r + s) 15, clQ (r - s) 15, clR (r - s) 15, clQ (r * s) 14, clR (r * s) 14, clV (ii (cmpQ r s)), clV (ii (sign r)), clQ o 300000, clR o 14, clV (ii (if isI64 r then r.num else 0)), clV (.bool (isI64 r)),
  clQ (-r) 7, clR (-r) 7, clQ (absQ r) 7, clR (absQ r) 7, clQ ((r.floor : Int) : Rat) 9, clR ((r.floor : Int) : Rat) 9, clQ ((r.ceil : Int) : Rat) 9, clR ((r.ceil : Int) : Rat) 9]
noncomputable abbrev C_ar (la lb : List UInt8) (r s o : Rat) (w : World) : Ctx := mkC [1, 1, 4, 3, 4, 3, 4, 3, 4, 3, 4, 3, 1, 1, 4, 3, 1, 1, 4, 3, 4, 3, 4, 3, 4, 3] [true, true, true, true, true, true, true, true, true, true, true, true, true, true, true, true, true, true, true, true, true, true, true, true, true, true] [26, 33] 169 (cl_ar la lb r s o) w
theorem ar_C (la lb : List UInt8) (r s o : Rat) (w : World) : (C_ar la lb r s o w).Ok := by
  have q := fun r k => clQ_ok (okT := [26, 33]) (B := w.heap.size) qrT.1 r k
  have p := fun r k => clR_ok (okT := [26, 33]) (B := w.heap.size) qrT.2 r k
  exact mkC_ok (oks_cons (clVs_ok _) (oks_cons (clVs_ok _) (oks_cons (q _ _) (oks_cons (p _ _) (oks_cons (q _ _) (oks_cons (p _ _) (oks_cons (q _ _) (oks_cons (p _ _) (oks_cons (q _ _) (oks_cons (p _ _) (oks_cons (q _ _) (oks_cons (p _ _) (oks_cons (clVi_ok _) (oks_cons (clVi_ok _) (oks_cons (q _ _) (oks_cons (p _ _) (oks_cons (clVi_ok _) (oks_cons (clVb_ok _)
    (oks_cons (q _ _) (oks_cons (p _ _) (oks_cons (q _ _) (oks_cons (p _ _) (oks_cons (q _ _) (oks_cons (p _ _) (oks_cons (q _ _) (oks_cons (p _ _) oks_nil)))))))))))))))))))))))))) rfl rfl
def t_ar0 (b : Bool) : List Ent := [⟨.call 23, [.slc 9 2 [.cls 0 1, .cls 1 1]], .val (vp (.bool b))⟩, ⟨.call 10, [], .val (vp (.bool true))⟩]
def t_ar1 : List Ent := [⟨.call 24, [op 0], .tup [qp 2, rq 3]⟩, ⟨.call 24, [op 1], .tup [qp 4, rq 5]⟩, ⟨.call 25, [qp 2, qp 4], .val (qp 6)⟩, ⟨.call 26, [rq 3, rq 5], .val (rq 7)⟩, ⟨.call 13, [qp 6, rq 7], .val (vp (.bool true))⟩,
  ⟨.call 27, [qp 2, qp 4], .val (qp 8)⟩, ⟨.call 28, [rq 3, rq 5], .val (rq 9)⟩, ⟨.call 13, [qp 8, rq 9], .val (vp (.bool true))⟩, ⟨.call 29, [qp 2, qp 4], .val (qp 10)⟩, ⟨.call 30, [rq 3, rq 5], .val (rq 11)⟩, ⟨.call 13, [qp 10, rq 11], .val (vp (.bool true))⟩,
  ⟨.call 31, [qp 2, qp 4], .val (op 12)⟩, ⟨.call 32, [rq 3, rq 5], .val (op 12)⟩, ⟨.bin .neq 3, [op 12, op 12], .val (vp (.bool false))⟩, ⟨.call 33, [rq 3], .val (op 13)⟩, ⟨.bin .neq 3, [op 13, op 13], .val (vp (.bool false))⟩]
def t_ar2 : List Ent := [⟨.call 17, [qp 2], .tup [op 16, op 17]⟩, ⟨.call 21, [rq 3], .tup [op 16, op 17]⟩, ⟨.bin .eql 2, [op 16, op 16], .val (vp (.bool true))⟩, ⟨.bin .eql 4, [op 17, op 17], .val (vp (.bool true))⟩,
  ⟨.call 37, [qp 2], .val (qp 18)⟩, ⟨.call 38, [rq 3], .val (rq 19)⟩, ⟨.call 13, [qp 18, rq 19], .val (vp (.bool true))⟩, ⟨.call 39, [qp 2], .val (qp 20)⟩, ⟨.call 40, [rq 3], .val (rq 21)⟩, ⟨.call 13, [qp 20, rq 21], .val (vp (.bool true))⟩,
  ⟨.call 41, [qp 2], .val (qp 22)⟩, ⟨.call 42, [rq 3], .val (rq 23)⟩, ⟨.call 13, [qp 22, rq 23], .val (vp (.bool true))⟩, ⟨.call 43, [qp 2], .val (qp 24)⟩, ⟨.call 44, [rq 3], .val (rq 25)⟩, ⟨.call 13, [qp 24, rq 25], .val (vp (.bool true))⟩,
  ⟨.call 13, [qp 2, rq 3], .val (vp (.bool true))⟩, ⟨.call 13, [qp 4, rq 5], .val (vp (.bool true))⟩]
def t_arZ : List Ent := [⟨.call 34, [qp 2, qp 4], .tup [qp 14, vp (.int .i64 10)]⟩, ⟨.call 35, [rq 5], .val (vp (.bool true))⟩, ⟨.call 19, [qp 14], .val (vp (.int .i64 0))⟩, ⟨.call 19, [qp 2], .val (op 13)⟩]
def t_arN : List Ent := [⟨.call 34, [qp 2, qp 4], .tup [qp 14, vp (.int .i64 0)]⟩, ⟨.call 35, [rq 5], .val (vp (.bool false))⟩, ⟨.call 36, [rq 3, rq 5], .val (rq 15)⟩, ⟨.call 13, [qp 14, rq 15], .val (vp (.bool true))⟩, ⟨.call 19, [qp 2], .val (op 13)⟩]
section
variable {la lb : List UInt8} {r s o : Rat} {w : World}
theorem ar0_T (hG : Gr w) {b : Bool} (h : [la, lb].any (fun x => decide (120 < x.length)) = b) : ∀ t ∈ t_ar0 b, t.Valid (C_ar la lb r s o w) :=
  forall_cons (e_long (ls := [la, lb]) ⟨_, _, rfl, rfl, ⟨_, _, rfl, rfl, rfl⟩⟩ rfl rfl h) (forall_cons (e_known hG) forall_nil)
theorem ar1_T (hG : Gr w) (ha : la.length ≤ 120) (hb : lb.length ≤ 120) (hr : (readQ la).1 = r) (hs : (readQ lb).1 = s) : ∀ t ∈ t_ar1, t.Valid (C_ar la lb r s o w) := by
  have z1 : Siz r 7 := hr ▸ Siz.read la (L := 120) ha (by decide) (by decide)
  have z2 : Siz s 7 := hs ▸ Siz.read lb (L := 120) hb (by decide) (by decide)
  exact forall_cons (e_both hG (by omega) (pv rfl) hr z1 rfl rfl) (forall_cons (e_both hG (by omega) (pv rfl) hs z2 rfl rfl) (forall_cons (e_plus hG (pq rfl) (pq rfl) rfl rfl) (forall_cons (e_radd (pr rfl) (pr rfl) rfl rfl) (forall_cons (e_same (pq rfl) (pr rfl) rfl (decide_eq_true rfl))
    (forall_cons (e_minus hG (pq rfl) (pq rfl) rfl rfl) (forall_cons (e_rsub (pr rfl) (pr rfl) rfl rfl rfl) (forall_cons (e_same (pq rfl) (pr rfl) rfl (decide_eq_true rfl)) (forall_cons (e_times hG (pq rfl) (pq rfl) rfl rfl) (forall_cons (e_rmul (pr rfl) (pr rfl) rfl rfl) (forall_cons (e_same (pq rfl) (pr rfl) rfl (decide_eq_true rfl))
      (forall_cons (e_cmpx (pq rfl) (pq rfl) rfl (rv rfl)) (forall_cons (e_rcmpx (pr rfl) (pr rfl) rfl (rv rfl)) (forall_cons (e_neqk (pv rfl) (pv rfl) (by simp)) (forall_cons (e_rsignx (pr rfl) (rv rfl)) (forall_cons (e_neqk (pv rfl) (pv rfl) (by simp)) forall_nil)))))))))))))))
theorem ar2_T (hG : Gr w) : ∀ t ∈ t_ar2, t.Valid (C_ar la lb r s o w) :=
  forall_cons (e_int64 (pq rfl) rfl rfl (fun _ => (op_is rfl).2 rfl) (fun _ => (op_is rfl).2 rfl)) (forall_cons (e_rint64 (pr rfl) (by decide) rfl rfl (fun _ => (op_is rfl).2 rfl) (fun _ => (op_is rfl).2 rfl)) (forall_cons (e_eql (pv rfl) (pv rfl) (decide_eq_true rfl)) (forall_cons (e_eqb (pv rfl) (pv rfl) (by simp))
    (forall_cons (e_neg (pq rfl) rfl rfl) (forall_cons (e_rneg (pr rfl) rfl rfl) (forall_cons (e_same (pq rfl) (pr rfl) rfl (decide_eq_true rfl)) (forall_cons (e_abs (pq rfl) rfl rfl) (forall_cons (e_rabs (pr rfl) rfl rfl) (forall_cons (e_same (pq rfl) (pr rfl) rfl (decide_eq_true rfl))
      (forall_cons (e_floor hG (pq rfl) rfl rfl rfl) (forall_cons (e_rfloor (pr rfl) rfl rfl rfl) (forall_cons (e_same (pq rfl) (pr rfl) rfl (decide_eq_true rfl)) (forall_cons (e_ceil hG (pq rfl) rfl rfl rfl) (forall_cons (e_rceil (pr rfl) rfl rfl rfl rfl) (forall_cons (e_same (pq rfl) (pr rfl) rfl (decide_eq_true rfl))
        (forall_cons (e_same (pq rfl) (pr rfl) rfl (decide_eq_true rfl)) (forall_cons (e_same (pq rfl) (pr rfl) rfl (decide_eq_true rfl)) forall_nil)))))))))))))))))
theorem arZ_T (hs : s = 0) (ho : o = 0) : ∀ t ∈ t_arZ, t.Valid (C_ar la lb r s o w) := by
  subst ho
  exact forall_cons (e_over0 (pq rfl) (pq rfl) rfl rfl hs) (forall_cons (e_riszero (pr rfl) (decide_eq_true hs)) (forall_cons (e_sign (pq rfl) (by rfl)) (forall_cons (e_signx (pq rfl) (rv rfl)) forall_nil)))
theorem arN_T (hG : Gr w) (hs : s ≠ 0) (ho : o = r / s) : ∀ t ∈ t_arN, t.Valid (C_ar la lb r s o w) := by
  subst ho
  exact forall_cons (e_over hG (pq rfl) (pq rfl) rfl rfl hs) (forall_cons (e_riszero (pr rfl) (decide_eq_false hs)) (forall_cons (e_rdiv (fun h => hs (Rat.num_eq_zero.1 h)) (pr rfl) (pr rfl) rfl rfl) (forall_cons (e_same (pq rfl) (pr rfl) rfl (decide_eq_true rfl)) (forall_cons (e_signx (pq rfl) (rv rfl)) forall_nil))))
end
set_option maxRecDepth 100000 in
theorem arith_walk (la lb : List UInt8) (w : World) (hG : Gr w) : Calls Tryz.prog 5 #[str la, str lb] w (Go.Proofs.YtccabfblgjcboaaGreatDoor.Val w (.bool true)) := by
  have go : ∀ {r s o : Rat} {T : List Ent}, (∀ t ∈ T, t.Valid (C_ar la lb r s o w)) → runB (C_ar la lb r s o w).toStat T 200 (bodyOf Tryz.f5) Tryz.f5.results.toList [op 0, op 1] (.val (vp (.bool true))) = true → Calls Tryz.prog 5 #[str la, str lb] w (Go.Proofs.YtccabfblgjcboaaGreatDoor.Val w (.bool true)) := by
    intro r s o T hT hrun
    refine (run_mk (ar_C la lb r s o w) hT 5 Tryz.f5 [op 0, op 1] (.val (vp (.bool true))) 200 Tryz.func5 rfl rfl rfl hrun [str la, str lb] ⟨_, _, rfl, (op_is rfl).2 rfl, _, _, rfl, (op_is rfl).2 rfl, rfl⟩).mono ?_
    rintro e w' ⟨v, rfl, hv, hb⟩
    rw [val_of hv]
    exact ⟨rfl, hb⟩
  cases h : [la, lb].any (fun x => decide (120 < x.length)) with
  | true => exact go (r := 0) (s := 0) (o := 0) (ar0_T hG h) (by kernel_rfl)
  | false =>
    have hl : la.length ≤ 120 ∧ lb.length ≤ 120 := by
      simp at h
      omega
    obtain ⟨r, hr⟩ : ∃ r, (readQ la).1 = r := ⟨_, rfl⟩
    obtain ⟨s, hs⟩ : ∃ s, (readQ lb).1 = s := ⟨_, rfl⟩
    by_cases h0 : s = 0
    · exact go (t_app (ar0_T hG h) (t_app (ar1_T hG hl.1 hl.2 hr hs) (t_app (ar2_T hG) (arZ_T h0 rfl)))) (by kernel_rfl)
    · exact go (t_app (ar0_T hG h) (t_app (ar1_T hG hl.1 hl.2 hr hs) (t_app (ar2_T hG) (arN_T hG h0 rfl)))) (by kernel_rfl)
end Sym
end Go.Proofs.YtccabfblgjcboaaGreatDoor

/- The reference's spans: lists of numbers, Ends. -/
namespace Go.Proofs.YtccabfblgjcboaaGreatDoor
open Go Go.RowKit Go.Proofs Lim
namespace Sym
def RSp (w : World) (v : Value) (lo hi : Rat) : Prop := ∃ a b c d e f, v = .agg #[a, b, c, d, e, f] ∧ RQ w (.agg #[a, b, c]) lo ∧ RQ w (.agg #[d, e, f]) hi
theorem RSp.below {w w' : World} {v : Value} {r s : Rat} {B : Nat} (h : RSp w v r s) (hb : Below B w w') (hB : w.heap.size ≤ B) : RSp w' v r s := by
  obtain ⟨a, b, c, d, e, f, hv, h1, h2⟩ := h
  exact ⟨a, b, c, d, e, f, hv, h1.below hb hB, h2.below hb hB⟩
def rsp (c d : Nat) : Pat := .agg [.cls c 3, .cls d 3]
def Lst (w : World) (v : Value) (rs : List Rat) : Prop := ∃ b cap arr fr, v = .slice (some ⟨b, 0, none⟩) rs.length cap ∧ w.heap[b]? = some (.cells arr 33 fr) ∧ ∀ i r, rs[i]? = some r → ∃ x y z, arr[3 * i]? = some x ∧ arr[3 * i + 1]? = some y ∧ arr[3 * i + 2]? = some z ∧ RQ w (.agg #[x, y, z]) r
theorem Lst.below {w w' : World} {v : Value} {rs : List Rat} {B : Nat} (h : Lst w v rs) (hb : Below B w w') (hB : w.heap.size ≤ B) : Lst w' v rs := by
  obtain ⟨b, cap, arr, fr, hv, hc, h1⟩ := h
  have hlt : b < B := Nat.lt_of_lt_of_le (Array.getElem?_eq_some_iff.1 hc).1 hB
  refine ⟨b, cap, arr, fr, hv, (hb.block b hlt).trans hc, fun i r hi => ?_⟩
  obtain ⟨x, y, z, e1, e2, e3, h2⟩ := h1 i r hi
  exact ⟨x, y, z, e1, e2, e3, h2.below hb hB⟩
theorem Lst.one {w : World} {v : Value} {rs : List Rat} (h : Lst w v rs) : v.oneCell' = true := by
  obtain ⟨b, cap, arr, fr, rfl, _⟩ := h
  rfl
section
variable {csz : List Nat} {numc : List Bool} {okT : List Nat} {nt : Nat} {cl : List Cl} {w0 : World} {w : World} {v z : Value} {p1 p2 p3 p4 : Pat} {res : RPat} {c d c1 c2 c3 c4 c5 c6 : Nat} {r s t r1 r2 r3 r4 : Rat} {k k1 k2 k3 k4 k5 k6 : Nat} {rs : List Rat}
theorem rsp_is (h : cl[c]? = some (clR r k)) (h' : cl[d]? = some (clR s k1)) : (rsp c d).is (mkC csz numc okT nt cl w0) w v ↔ RSp w v r s ∧ Siz r k ∧ Siz s k1 := by
  constructor
  · rintro ⟨vs, ⟨xs, ys, rfl, ⟨f, hE, rfl⟩, ⟨xs', ys', rfl, ⟨f', hE', rfl⟩, hy⟩⟩, rfl⟩
    rw [show ys' = [] from hy]
    simp only [mkC, h] at hE
    simp only [mkC, h'] at hE'
    exact ⟨⟨f 0, f 1, f 2, f' 0, f' 1, f' 2, rfl, hE.1, hE'.1⟩, hE.2, hE'.2⟩
  · rintro ⟨⟨a, b, c0, d0, e, f, rfl, h1, h2⟩, z1, z2⟩
    refine ⟨[a, b, c0, d0, e, f], ⟨[a, b, c0], [d0, e, f], rfl, ⟨fun j => [a, b, c0].getD j undef, ?_, rfl⟩, ⟨[d0, e, f], [], rfl, ⟨fun j => [d0, e, f].getD j undef, ?_, rfl⟩, rfl⟩⟩, rfl⟩
    · simp only [mkC, h]; exact ⟨h1, z1⟩
    · simp only [mkC, h']; exact ⟨h2, z2⟩
def PRS (csz : List Nat) (numc : List Bool) (okT : List Nat) (nt : Nat) (cl : List Cl) (w0 : World) (p : Pat) (r : Rat) (k : Nat) (s : Rat) (j : Nat) : Prop := ∀ w v, p.is (mkC csz numc okT nt cl w0) w v → RSp w v r s ∧ Siz r k ∧ Siz s j
theorem prs (h : cl[c]? = some (clR r k)) (h' : cl[d]? = some (clR s k1)) : PRS csz numc okT nt cl w0 (rsp c d) r k s k1 := fun _ _ h1 => (rsp_is h h').1 h1
theorem e_rminm (h1 : PR csz numc okT nt cl w0 p1 r k1) (h2 : PR csz numc okT nt cl w0 p2 s k2) (h3 : cl[c3]? = some (clR (minQ r s) k3)) (hk1 : fitr k1 k3 = true) (hk2 : fitr k2 k3 = true) (hk' : fitr k3 5000 = true) : V csz numc okT nt cl w0 (.call 106) [p1, p2] (.val (rq c3)) := by
  have hk1 := fitr_le hk1
  have hk2 := fitr_le hk2
  have hk' := fitr_le hk'
  exact ent_rrr (enters_of Tryz.func106 (by kernel_rfl) rfl) h1 h2 h3 (fun z1 z2 => minQ_siz (z1.le hk1.1) (z2.le hk2.1)) (fun W v1 v2 q1 z1 q2 z2 => rmin_q v1 v2 r s k3 W q1 q2 (z1.le hk1.1) (z2.le hk2.1) hk'.1)
theorem e_rmaxm (h1 : PR csz numc okT nt cl w0 p1 r k1) (h2 : PR csz numc okT nt cl w0 p2 s k2) (h3 : cl[c3]? = some (clR (maxQ r s) k3)) (hk1 : fitr k1 k3 = true) (hk2 : fitr k2 k3 = true) (hk' : fitr k3 5000 = true) : V csz numc okT nt cl w0 (.call 107) [p1, p2] (.val (rq c3)) := by
  have hk1 := fitr_le hk1
  have hk2 := fitr_le hk2
  have hk' := fitr_le hk'
  exact ent_rrr (enters_of Tryz.func107 (by kernel_rfl) rfl) h1 h2 h3 (fun z1 z2 => maxQ_siz (z1.le hk1.1) (z2.le hk2.1)) (fun W v1 v2 q1 z1 q2 z2 => rmax_q v1 v2 r s k3 W q1 q2 (z1.le hk1.1) (z2.le hk2.1) hk'.1)
end

section
variable {csz : List Nat} {numc : List Bool} {okT : List Nat} {cl : List Cl} {w0 : World} {w : World} {p0 p4 : Pat} {lo hi : Rat} {v : Value} {i : Nat} {a : Act} {c d k k' : Nat}
end
end Sym
end Go.Proofs.YtccabfblgjcboaaGreatDoor

/- Lists of numbers of the reference, as arguments and as a class; one that grows. -/
namespace Go.Proofs.YtccabfblgjcboaaGreatDoor
open Go Go.RowKit Go.Proofs Lim
namespace Sym
theorem RQ.only {w w' : World} {R : Nat} {cs : Array Value} {t : TypeId} {v : Value} {r : Rat} (ho : w.heap[R]? = some (.cells cs t (0, 0))) (ht : t ≠ 3) (hb : Only R w w') (h : RQ w v r) : RQ w' v r := by
  obtain ⟨a, b, e, h1, h2⟩ := h
  exact ⟨a, b, e, Dg.only ho ht h1 hb, Dg.only ho ht h2 hb⟩
theorem Lst.only {w w' : World} {R : Nat} {cs : Array Value} {t : TypeId} {v : Value} {rs : List Rat} (ho : w.heap[R]? = some (.cells cs t (0, 0))) (ht : t ≠ 3) (ht' : t ≠ 33) (hb : Only R w w') (h : Lst w v rs) : Lst w' v rs := by
  obtain ⟨b, cap, arr, fr, hv, hc, h1⟩ := h
  have hne : b ≠ R := by
    rintro rfl
    rw [ho] at hc
    injection hc with hc
    injection hc with _ hc
    exact ht' hc
  refine ⟨b, cap, arr, fr, hv, (hb.block b hne).trans hc, fun i r hi => ?_⟩
  obtain ⟨x, y, z, e1, e2, e3, h2⟩ := h1 i r hi
  exact ⟨x, y, z, e1, e2, e3, h2.only ho ht hb⟩
section
variable {csz : List Nat} {numc : List Bool} {okT : List Nat} {nt : Nat} {cl : List Cl} {w0 : World} {w : World} {v z : Value} {p1 p2 p3 p4 : Pat} {res : RPat} {c d c1 c2 c3 c4 c5 c6 : Nat} {r s t r1 r2 r3 r4 : Rat} {k k1 k2 k3 k4 k5 k6 : Nat} {rs : List Rat}
end
end Sym
end Go.Proofs.YtccabfblgjcboaaGreatDoor

/- The reference's spans, by runs. -/
namespace Go.Proofs.YtccabfblgjcboaaGreatDoor
open Go Go.RowKit Go.Proofs Lim
namespace Sym
noncomputable def cl_rbetween_1 (a : Rat) (b : Rat) : List Cl := [
  clR (a) 400,
  clR (b) 400,
  clR (minQ (a) (b)) 400,
  clR (maxQ (a) (b)) 400]
def t_rbetween_1 : List Ent := [
  ⟨.call 106, [rq 0, rq 1], (.val (rq 2))⟩,
  ⟨.call 107, [rq 0, rq 1], (.val (rq 3))⟩]
set_option maxRecDepth 100000 in
theorem rbetween_ok (v0 : Value) (v1 : Value) (a b : Rat) (w : World) (q0 : RQ w v0 a) (q1 : RQ w v1 b) (za : Siz a 400) (zb : Siz b 400)  :
    Calls Tryz.prog 101 #[v0, v1] w (fun e w' => ∃ v, e = .returned v ∧ RSp w' v (minQ (a) (b)) (maxQ (a) (b)) ∧ Siz (minQ (a) (b)) 400 ∧ Siz (maxQ (a) (b)) 400 ∧ Below w.heap.size w w') := by
  have hC : (mkC [3, 3, 3, 3] [true, true, true, true] [33, 68] 12 (cl_rbetween_1 a b) w).Ok := mkC_ok (oks_cons (clR_ok (by decide) _ _) <| oks_cons (clR_ok (by decide) _ _) <| oks_cons (clR_ok (by decide) _ _) <| oks_cons (clR_ok (by decide) _ _) <| oks_nil) rfl rfl
  have hT : ∀ t ∈ t_rbetween_1, t.Valid (mkC [3, 3, 3, 3] [true, true, true, true] [33, 68] 12 (cl_rbetween_1 a b) w) :=
    forall_cons (e_rminm (pr rfl) (pr rfl) rfl rfl rfl rfl) <|
    forall_cons (e_rmaxm (pr rfl) (pr rfl) rfl rfl rfl rfl) <|
    forall_nil
  refine Calls.mono (run_mk hC hT 101 Tryz.f101 [rq 0, rq 1] (.val (rsp 2 3)) 200 Tryz.func101 rfl rfl rfl (by kernel_rfl) [v0, v1] ⟨v0, _, rfl, (rq_is rfl).2 ⟨q0, za⟩, ⟨v1, _, rfl, (rq_is rfl).2 ⟨q1, zb⟩, rfl⟩⟩) ?_
  rintro e w' ⟨v, rfl, hv, hb⟩; obtain ⟨h1, h2, h3⟩ := (rsp_is rfl rfl).1 hv; exact ⟨v, rfl, h1, h2, h3, hb⟩
theorem e_rbetween {csz : List Nat} {numc : List Bool} {okT : List Nat} {nt : Nat} {cl : List Cl} {w0 : World} {p1 p2 : Pat} {c1 c2 k1 k2 : Nat} {a b : Rat}  (h1 : PR csz numc okT nt cl w0 p1 a k1) (h2 : PR csz numc okT nt cl w0 p2 b k2) (fk1 : fitr k1 400 = true) (fk2 : fitr k2 400 = true)  (g1 : cl[c1]? = some (clR (minQ (a) (b)) 400)) (g2 : cl[c2]? = some (clR (maxQ (a) (b)) 400)) : V csz numc okT nt cl w0 (.call 101) [p1, p2] (.val (rsp c1 c2)) := by
  refine ⟨enters_of Tryz.func101 (by kernel_rfl) rfl, fun w vs hb hvs => ?_⟩
  obtain ⟨u1, _, rfl, j1, ⟨u2, _, rfl, j2, rfl⟩⟩ := hvs
  have i1 := h1 _ _ j1
  have i2 := h2 _ _ j2
  refine (rbetween_ok u1 u2 _ _ w i1.1 i2.1 (i1.2.le (fitr_le fk1).1) (i2.2.le (fitr_le fk2).1) ).mono ?_
  rintro e w' ⟨v, rfl, q1, q2, q3, hb'⟩
  exact ⟨v, rfl, (rsp_is g1 g2).2 ⟨q1, q2, q3⟩, hb'⟩
noncomputable def cl_rout_1 (a : Rat) (b : Rat) (c : Rat) : List Cl := [
  clR (a) 400,
  clR (b) 400,
  clR (c) 400,
  clR ((a) / (c)) 800,
  clR (((Rat.floor ((a) / (c)) : Int) : Rat)) 802,
  clR ((((Rat.floor ((a) / (c)) : Int) : Rat)) * (c)) 1202,
  clR ((b) / (c)) 800,
  clR (((Rat.ceil ((b) / (c)) : Int) : Rat)) 802,
  clR ((((Rat.ceil ((b) / (c)) : Int) : Rat)) * (c)) 1202]
def t_rout_1 : List Ent := [
  ⟨.call 36, [rq 0, rq 2], (.val (rq 3))⟩,
  ⟨.call 42, [rq 3], (.val (rq 4))⟩,
  ⟨.call 30, [rq 4, rq 2], (.val (rq 5))⟩,
  ⟨.call 36, [rq 1, rq 2], (.val (rq 6))⟩,
  ⟨.call 44, [rq 6], (.val (rq 7))⟩,
  ⟨.call 30, [rq 7, rq 2], (.val (rq 8))⟩]
set_option maxRecDepth 100000 in
theorem rout_ok (v0 : Value) (v1 : Value) (a b c : Rat) (w : World) (q0 : RSp w v0 a b) (q1 : RQ w v1 c) (za : Siz a 400) (zb : Siz b 400) (zc : Siz c 400) (hc : decide ((c).num = 0) = false) :
    Calls Tryz.prog 67 #[v0, v1] w (fun e w' => ∃ v, e = .returned v ∧ RSp w' v ((((Rat.floor ((a) / (c)) : Int) : Rat)) * (c)) ((((Rat.ceil ((b) / (c)) : Int) : Rat)) * (c)) ∧ Siz ((((Rat.floor ((a) / (c)) : Int) : Rat)) * (c)) 1202 ∧ Siz ((((Rat.ceil ((b) / (c)) : Int) : Rat)) * (c)) 1202 ∧ Below w.heap.size w w') := by
  have hC : (mkC [3, 3, 3, 3, 3, 3, 3, 3, 3] [true, true, true, true, true, true, true, true, true] [33, 68] 20 (cl_rout_1 a b c) w).Ok := mkC_ok (oks_cons (clR_ok (by decide) _ _) <| oks_cons (clR_ok (by decide) _ _) <| oks_cons (clR_ok (by decide) _ _) <| oks_cons (clR_ok (by decide) _ _) <| oks_cons (clR_ok (by decide) _ _) <| oks_cons (clR_ok (by decide) _ _) <| oks_cons (clR_ok (by decide) _ _) <| oks_cons (clR_ok (by decide) _ _) <| oks_cons (clR_ok (by decide) _ _) <| oks_nil) rfl rfl
  have hT : ∀ t ∈ t_rout_1, t.Valid (mkC [3, 3, 3, 3, 3, 3, 3, 3, 3] [true, true, true, true, true, true, true, true, true] [33, 68] 20 (cl_rout_1 a b c) w) :=
    forall_cons (e_rdiv (of_decide_eq_false hc) (pr rfl) (pr rfl) rfl rfl) <|
    forall_cons (e_rfloor (pr rfl) rfl rfl rfl) <|
    forall_cons (e_rmul (pr rfl) (pr rfl) rfl rfl) <|
    forall_cons (e_rdiv (of_decide_eq_false hc) (pr rfl) (pr rfl) rfl rfl) <|
    forall_cons (e_rceil (pr rfl) rfl rfl rfl rfl) <|
    forall_cons (e_rmul (pr rfl) (pr rfl) rfl rfl) <|
    forall_nil
  refine Calls.mono (run_mk hC hT 67 Tryz.f67 [rsp 0 1, rq 2] (.val (rsp 5 8)) 200 Tryz.func67 rfl rfl rfl (by kernel_rfl) [v0, v1] ⟨v0, _, rfl, (rsp_is rfl rfl).2 ⟨q0, za, zb⟩, ⟨v1, _, rfl, (rq_is rfl).2 ⟨q1, zc⟩, rfl⟩⟩) ?_
  rintro e w' ⟨v, rfl, hv, hb⟩; obtain ⟨h1, h2, h3⟩ := (rsp_is rfl rfl).1 hv; exact ⟨v, rfl, h1, h2, h3, hb⟩
theorem e_rout {csz : List Nat} {numc : List Bool} {okT : List Nat} {nt : Nat} {cl : List Cl} {w0 : World} {p1 p2 : Pat} {c1 c2 k1 k2 k3 : Nat} {a b c : Rat}  (h1 : PRS csz numc okT nt cl w0 p1 a k1 b k2) (h2 : PR csz numc okT nt cl w0 p2 c k3) (fk1 : fitr k1 400 = true) (fk2 : fitr k2 400 = true) (fk3 : fitr k3 400 = true) (hc : decide ((c).num = 0) = false) (g1 : cl[c1]? = some (clR ((((Rat.floor ((a) / (c)) : Int) : Rat)) * (c)) 1202)) (g2 : cl[c2]? = some (clR ((((Rat.ceil ((b) / (c)) : Int) : Rat)) * (c)) 1202)) : V csz numc okT nt cl w0 (.call 67) [p1, p2] (.val (rsp c1 c2)) := by
  refine ⟨enters_of Tryz.func67 (by kernel_rfl) rfl, fun w vs hb hvs => ?_⟩
  obtain ⟨u1, _, rfl, j1, ⟨u2, _, rfl, j2, rfl⟩⟩ := hvs
  have i1 := h1 _ _ j1
  have i2 := h2 _ _ j2
  refine (rout_ok u1 u2 _ _ _ w i1.1 i2.1 (i1.2.1.le (fitr_le fk1).1) (i1.2.2.le (fitr_le fk2).1) (i2.2.le (fitr_le fk3).1) hc).mono ?_
  rintro e w' ⟨v, rfl, q1, q2, q3, hb'⟩
  exact ⟨v, rfl, (rsp_is g1 g2).2 ⟨q1, q2, q3⟩, hb'⟩
end Sym
end Go.Proofs.YtccabfblgjcboaaGreatDoor

/- By runs: the quotient that a law takes; Span.Meet; Span.Out. -/
namespace Go.Proofs.YtccabfblgjcboaaGreatDoor
open Go Go.RowKit Go.Proofs Lim
namespace Sym

theorem meet_post {csz : List Nat} {numc : List Bool} {okT : List Nat} {nt : Nat} {cl : List Cl} {w0 : World} {w w' : World} {v : Value} {c5 c6 k5 k6 : Nat} {lo hi : Rat} {x : Value} (hv : RPat.is (mkC csz numc okT nt cl w0) w' (.tup [sp c5 c6, vp x]) v) (hb : Below w.heap.size w w')
    (h5 : cl[c5]? = some (clQ lo k5)) (h6 : cl[c6]? = some (clQ hi k6)) : ∃ v', Ending.returned v = .returned (.tuple #[v', x]) ∧ IsS w' v' lo hi ∧ Below w.heap.size w w' := by
  obtain ⟨vs, ⟨v1, _, rfl, h1, v2, _, rfl, h2, rfl⟩, rfl⟩ := hv
  obtain rfl := vp_is.1 h2
  exact ⟨v1, rfl, ((sp_is h5 h6).1 h1).1, hb⟩
def zs : Pat := .agg [.lit (.bool false), .lit (.int .u64 0), .lit (.int .u64 0), .lit (.pointer none), .lit (.bool false), .lit (.int .u64 0), .lit (.int .u64 0), .lit (.pointer none)]
theorem zs_is {C : Ctx} {w : World} {v : Value} (h : zs.is C w v) : v = zspan := by
  obtain ⟨vs, ⟨_, _, rfl, rfl, _, _, rfl, rfl, _, _, rfl, rfl, _, _, rfl, rfl, _, _, rfl, rfl, _, _, rfl, rfl, _, _, rfl, rfl, _, _, rfl, rfl, rfl⟩, rfl⟩ := h
  rfl
theorem meet_post0 {C : Ctx} {w w' : World} {v : Value} {x : Value} (hv : RPat.is C w' (.tup [zs, vp x]) v) (hb : Below w.heap.size w w') : ∃ v', Ending.returned v = .returned (.tuple #[v', x]) ∧ IsS w' v' 0 0 ∧ Below w.heap.size w w' := by
  obtain ⟨vs, ⟨v1, _, rfl, h1, v2, _, rfl, h2, rfl⟩, rfl⟩ := hv
  obtain rfl := vp_is.1 h2
  obtain rfl := zs_is h1
  exact ⟨_, rfl, zspan_is _, hb⟩

noncomputable def cl_outok_1 (a : Rat) (b : Rat) (g : Rat) : List Cl := [
  clQ (a) 10000,
  clQ (b) 10000,
  clQ (g) 10000,
  clQ (lowOf (a) [b]) 20000,
  clQ (highOf (a) [b]) 20000,
  clQ ((g)⁻¹) 10000,
  clQ ((lowOf (a) [b]) * ((g)⁻¹)) 30000,
  clQ (((Rat.floor ((lowOf (a) [b]) * ((g)⁻¹)) : Int) : Rat)) 30002,
  clQ ((highOf (a) [b]) * ((g)⁻¹)) 30000,
  clQ (((Rat.ceil ((highOf (a) [b]) * ((g)⁻¹)) : Int) : Rat)) 30002,
  clQ ((((Rat.floor ((lowOf (a) [b]) * ((g)⁻¹)) : Int) : Rat)) * (g)) 40002,
  clQ ((((Rat.ceil ((highOf (a) [b]) * ((g)⁻¹)) : Int) : Rat)) * (g)) 40002]

def t_outok_1 : List Ent := [
  ⟨.call 19, [qp 2], (.val (vp (.int .i64 1)))⟩,
  ⟨.call 108, [sp 0 1], (.val (sp 3 4))⟩,
  ⟨.call 80, [qp 2], (.val (qp 5))⟩,
  ⟨.call 29, [qp 3, qp 5], (.val (qp 6))⟩,
  ⟨.call 41, [qp 6], (.val (qp 7))⟩,
  ⟨.call 29, [qp 4, qp 5], (.val (qp 8))⟩,
  ⟨.call 43, [qp 8], (.val (qp 9))⟩,
  ⟨.call 29, [qp 7, qp 2], (.val (qp 10))⟩,
  ⟨.call 29, [qp 9, qp 2], (.val (qp 11))⟩]

set_option maxRecDepth 100000 in
theorem out_ok (v1 v2 : Value) (a b g : Rat) (w : World) (hG : Gr w) (q1 : IsS w v1 a b) (q2 : IsQ w v2 g) (z1 : Siz a 10000) (z2 : Siz b 10000) (z3 : Siz g 10000) (hx : sign g = 1) (h0 : decide (g = 0) = false) :
    Calls Tryz.prog 66 #[v1, v2] w (fun e w' => ∃ v, e = .returned (.tuple #[v, .int .i64 0]) ∧ IsS w' v (((Rat.floor (lowOf a [b] * g⁻¹) : Int) : Rat) * g) (((Rat.ceil (highOf a [b] * g⁻¹) : Int) : Rat) * g) ∧ Below w.heap.size w w') := by
  have hC : (mkC [4, 4, 4, 4, 4, 4, 4, 4, 4, 4, 4, 4] [true, true, true, true, true, true, true, true, true, true, true, true] [26, 66, 64, 104] 34 (cl_outok_1 a b g) w).Ok := mkC_ok (oks_cons (clQ_ok (by decide) _ _) <| oks_cons (clQ_ok (by decide) _ _) <| oks_cons (clQ_ok (by decide) _ _) <| oks_cons (clQ_ok (by decide) _ _) <| oks_cons (clQ_ok (by decide) _ _) <| oks_cons (clQ_ok (by decide) _ _) <| oks_cons (clQ_ok (by decide) _ _) <| oks_cons (clQ_ok (by decide) _ _) <| oks_cons (clQ_ok (by decide) _ _) <| oks_cons (clQ_ok (by decide) _ _) <| oks_cons (clQ_ok (by decide) _ _) <| oks_cons (clQ_ok (by decide) _ _) <| oks_nil) rfl rfl
  have hT : ∀ t ∈ t_outok_1, t.Valid (mkC [4, 4, 4, 4, 4, 4, 4, 4, 4, 4, 4, 4] [true, true, true, true, true, true, true, true, true, true, true, true] [26, 66, 64, 104] 34 (cl_outok_1 a b g) w) :=
    forall_cons (e_sign (pq rfl) hx) <|
    forall_cons (e_sorted (ps rfl rfl) rfl rfl rfl rfl) <|
    forall_cons (e_recip (pq rfl) rfl rfl (of_decide_eq_false h0)) <|
    forall_cons (e_times hG (pq rfl) (pq rfl) rfl rfl) <|
    forall_cons (e_floor hG (pq rfl) rfl rfl rfl) <|
    forall_cons (e_times hG (pq rfl) (pq rfl) rfl rfl) <|
    forall_cons (e_ceil hG (pq rfl) rfl rfl rfl) <|
    forall_cons (e_times hG (pq rfl) (pq rfl) rfl rfl) <|
    forall_cons (e_times hG (pq rfl) (pq rfl) rfl rfl) <|
    forall_nil
  refine Calls.mono (run_mk hC hT 66 Tryz.f66 [sp 0 1, qp 2] (.tup [sp 10 11, vp (.int .i64 0)]) 200 Tryz.func66 rfl rfl rfl (by kernel_rfl) [v1, v2] ⟨v1, _, rfl, (sp_is rfl rfl).2 ⟨q1, z1, z2⟩, v2, _, rfl, (qp_is rfl).2 ⟨q2, z3⟩, rfl⟩) ?_
  rintro e w' ⟨v, rfl, hv, hb⟩; exact meet_post hv hb rfl rfl

noncomputable def cl_outno_1 (a : Rat) (b : Rat) (g : Rat) : List Cl := [
  clQ (a) 10000,
  clQ (b) 10000,
  clQ (g) 10000]

def t_outno_1 : List Ent := [
  ⟨.call 19, [qp 2], (.val (vp (.int .i64 (-1))))⟩]

noncomputable def cl_outno_2 (a : Rat) (b : Rat) (g : Rat) : List Cl := [
  clQ (a) 10000,
  clQ (b) 10000,
  clQ (g) 10000]

def t_outno_2 : List Ent := [
  ⟨.call 19, [qp 2], (.val (vp (.int .i64 0)))⟩]

set_option maxRecDepth 100000 in
theorem out_no (v1 v2 : Value) (a b g : Rat) (w : World) (hG : Gr w) (q1 : IsS w v1 a b) (q2 : IsQ w v2 g) (z1 : Siz a 10000) (z2 : Siz b 10000) (z3 : Siz g 10000) (hx : sign g ≠ 1) :
    Calls Tryz.prog 66 #[v1, v2] w (fun e w' => ∃ v, e = .returned (.tuple #[v, .int .i64 3]) ∧ IsS w' v 0 0 ∧ Below w.heap.size w w') := by
  rcases sign3 (g) with h1 | h1 | h1
  · skip
    have hC : (mkC [4, 4, 4] [true, true, true] [26, 66, 64, 104] 34 (cl_outno_1 a b g) w).Ok := mkC_ok (oks_cons (clQ_ok (by decide) _ _) <| oks_cons (clQ_ok (by decide) _ _) <| oks_cons (clQ_ok (by decide) _ _) <| oks_nil) rfl rfl
    have hT : ∀ t ∈ t_outno_1, t.Valid (mkC [4, 4, 4] [true, true, true] [26, 66, 64, 104] 34 (cl_outno_1 a b g) w) :=
      forall_cons (e_sign (pq rfl) h1) <|
      forall_nil
    refine Calls.mono (run_mk hC hT 66 Tryz.f66 [sp 0 1, qp 2] (.tup [.agg [.lit (.bool false), .lit (.int .u64 0), .lit (.int .u64 0), .lit (.pointer none), .lit (.bool false), .lit (.int .u64 0), .lit (.int .u64 0), .lit (.pointer none)], vp (.int .i64 3)]) 200 Tryz.func66 rfl rfl rfl (by kernel_rfl) [v1, v2] ⟨v1, _, rfl, (sp_is rfl rfl).2 ⟨q1, z1, z2⟩, v2, _, rfl, (qp_is rfl).2 ⟨q2, z3⟩, rfl⟩) ?_
    rintro e w' ⟨v, rfl, hv, hb⟩; exact meet_post0 hv hb
  · skip
    have hC : (mkC [4, 4, 4] [true, true, true] [26, 66, 64, 104] 34 (cl_outno_2 a b g) w).Ok := mkC_ok (oks_cons (clQ_ok (by decide) _ _) <| oks_cons (clQ_ok (by decide) _ _) <| oks_cons (clQ_ok (by decide) _ _) <| oks_nil) rfl rfl
    have hT : ∀ t ∈ t_outno_2, t.Valid (mkC [4, 4, 4] [true, true, true] [26, 66, 64, 104] 34 (cl_outno_2 a b g) w) :=
      forall_cons (e_sign (pq rfl) h1) <|
      forall_nil
    refine Calls.mono (run_mk hC hT 66 Tryz.f66 [sp 0 1, qp 2] (.tup [.agg [.lit (.bool false), .lit (.int .u64 0), .lit (.int .u64 0), .lit (.pointer none), .lit (.bool false), .lit (.int .u64 0), .lit (.int .u64 0), .lit (.pointer none)], vp (.int .i64 3)]) 200 Tryz.func66 rfl rfl rfl (by kernel_rfl) [v1, v2] ⟨v1, _, rfl, (sp_is rfl rfl).2 ⟨q1, z1, z2⟩, v2, _, rfl, (qp_is rfl).2 ⟨q2, z3⟩, rfl⟩) ?_
    rintro e w' ⟨v, rfl, hv, hb⟩; exact meet_post0 hv hb
  · skip
    exact absurd h1 hx


section
variable {csz : List Nat} {numc : List Bool} {okT : List Nat} {nt : Nat} {cl : List Cl} {w0 : World} {p1 p2 p3 p4 : Pat} {c1 c2 c3 c4 c5 c6 : Nat} {r s a b c d g lo hi : Rat} {k k1 k2 k3 k4 k5 k6 : Nat}
def smalls (l : List Nat) : Bool := l.all (fun k => Nat.ble k 10000)
theorem smalls_le {l : List Nat} (h : smalls l = true) : ∀ k ∈ l, k ≤ 10000 := fun k hk => Nat.le_of_ble_eq_true (List.all_eq_true.1 h k hk)
theorem e_out (hG : Gr w0) (h1 : PS csz numc okT nt cl w0 p1 a k1 b k2) (h2 : PQ csz numc okT nt cl w0 p2 g k3) (h5 : cl[c5]? = some (clQ (((Rat.floor (lowOf a [b] * g⁻¹) : Int) : Rat) * g) k5)) (h6 : cl[c6]? = some (clQ (((Rat.ceil (highOf a [b] * g⁻¹) : Int) : Rat) * g) k6))
    (hk : smalls [k1, k2, k3] = true) (hk5 : fits 30002 k5 = true) (hk6 : fits 30002 k6 = true) (hx : sign g = 1) : V csz numc okT nt cl w0 (.call 66) [p1, p2] (.tup [sp c5 c6, vp (.int .i64 0)]) := by
  have hk := smalls_le hk
  have h0 : g ≠ 0 := by
    rintro rfl
    exact absurd hx (by decide)
  have hn : g.num ≠ 0 := fun e => h0 (num_zero.1 e)
  refine ⟨enters_of Tryz.func66 (by kernel_rfl) rfl, fun w vs hb hvs => ?_⟩
  obtain ⟨v1, _, rfl, h7, v2, _, rfl, h8, rfl⟩ := hvs
  obtain ⟨q1, z1, z2⟩ := h1 _ _ h7
  obtain ⟨q2, z3⟩ := h2 _ _ h8
  have z1 := z1.le (hk k1 (by simp))
  have z2 := z2.le (hk k2 (by simp))
  have z3 := z3.le (hk k3 (by simp))
  refine (out_ok v1 v2 a b g w (hG.below hb hG.size) q1 q2 z1 z2 z3 hx (decide_eq_false h0)).mono ?_
  rintro e w' ⟨v, rfl, hv, hb'⟩
  have y1 := (((siz_l1 z1 z2).mul (z3.inv hn)).floor (by decide)).mul z3
  have y2 := (((siz_h1 z1 z2).mul (z3.inv hn)).ceil (by decide)).mul z3
  exact ⟨_, rfl, ⟨_, ⟨_, _, rfl, (sp_is h5 h6).2 ⟨hv, y1.le (fits_le hk5).1, y2.le (fits_le hk6).1⟩, _, _, rfl, vp_is.2 rfl, rfl⟩, rfl⟩, hb'⟩
theorem e_out0 (hG : Gr w0) (h1 : PS csz numc okT nt cl w0 p1 a k1 b k2) (h2 : PQ csz numc okT nt cl w0 p2 g k3) (h5 : cl[c5]? = some (clQ 0 k5))
    (hk : smalls [k1, k2, k3] = true) (hk5 : fits 1 k5 = true) (hx : sign g ≠ 1) : V csz numc okT nt cl w0 (.call 66) [p1, p2] (.tup [sp c5 c5, vp (.int .i64 3)]) := by
  have hk := smalls_le hk
  refine ⟨enters_of Tryz.func66 (by kernel_rfl) rfl, fun w vs hb hvs => ?_⟩
  obtain ⟨v1, _, rfl, h7, v2, _, rfl, h8, rfl⟩ := hvs
  obtain ⟨q1, z1, z2⟩ := h1 _ _ h7
  obtain ⟨q2, z3⟩ := h2 _ _ h8
  refine (out_no v1 v2 a b g w (hG.below hb hG.size) q1 q2 (z1.le (hk k1 (by simp))) (z2.le (hk k2 (by simp))) (z3.le (hk k3 (by simp))) hx).mono ?_
  rintro e w' ⟨v, rfl, hv, hb'⟩
  have z := Siz.zero k5 (fits_le hk5).1
  exact ⟨_, rfl, ⟨_, ⟨_, _, rfl, (sp_is h5 h5).2 ⟨hv, z, z⟩, _, _, rfl, vp_is.2 rfl, rfl⟩, rfl⟩, hb'⟩
end

end Sym
end Go.Proofs.YtccabfblgjcboaaGreatDoor

/- Spans by the program and by the document: what a text's ends are; whether two spans are the same. -/
namespace Go.Proofs.YtccabfblgjcboaaGreatDoor
open Go Go.RowKit Go.Proofs Lim
namespace Sym
theorem low2 (a b : Rat) : lowOf a [b] = minQ a b := by
  show (if b < a then b else a) = _
  unfold minQ
  by_cases h : a ≤ b
  · rw [if_neg (by grind), if_pos h]
  · rw [if_pos (by grind), if_neg h]
theorem high2 (a b : Rat) : highOf a [b] = maxQ a b := by
  show (if a < b then b else a) = _
  unfold maxQ
  by_cases h : b ≤ a
  · rw [if_neg (by grind), if_pos h]
  · rw [if_pos (by grind), if_neg h]
theorem qrsT : (∀ t ∈ [26, 33, 66, 68], t ≠ 23) ∧ (∀ t ∈ [26, 33, 66, 68], t ≠ 3) := by decide
abbrev okS : List Nat := [26, 33, 66, 68]
abbrev cl_spans (la lb : List UInt8) (a b : Rat) : List Cl := [clV (str la), clV (str lb), clQ a 7, clR a 7, clQ b 7, clR b 7, clR (minQ a b) 400, clR (maxQ a b) 400]
theorem spans_ok (la lb : List UInt8) (a b : Rat) (w : World) (hG : Gr w) (h1 : la.length ≤ 100000) (h2 : lb.length ≤ 100000) (ha : (readQ la).1 = a) (hb : (readQ lb).1 = b) (za : Siz a 7) (zb : Siz b 7) : Calls Tryz.prog 45 #[.agg #[str la, str lb]] w (fun e w' => ∃ x y, e = .returned (.tuple #[x, y]) ∧ IsS w' x a b ∧ RSp w' y (minQ a b) (maxQ a b) ∧ Siz (minQ a b) 400 ∧ Siz (maxQ a b) 400 ∧ Below w.heap.size w w') := by
  have hC : (mkC [1, 1, 4, 3, 4, 3, 3, 3] [true, true, true, true, true, true, true, true] okS 26 (cl_spans la lb a b) w).Ok := mkC_ok (oks_cons (clVs_ok _) (oks_cons (clVs_ok _) (oks_cons (clQ_ok qrsT.1 _ _) (oks_cons (clR_ok qrsT.2 _ _) (oks_cons (clQ_ok qrsT.1 _ _) (oks_cons (clR_ok qrsT.2 _ _) (oks_cons (clR_ok qrsT.2 _ _) (oks_cons (clR_ok qrsT.2 _ _) oks_nil)))))))) rfl rfl
  have hT : ∀ t ∈ ([⟨.call 24, [op 0], .tup [qp 2, rq 3]⟩, ⟨.call 24, [op 1], .tup [qp 4, rq 5]⟩, ⟨.call 101, [rq 3, rq 5], .val (rsp 6 7)⟩] : List Ent), t.Valid (mkC [1, 1, 4, 3, 4, 3, 3, 3] [true, true, true, true, true, true, true, true] okS 26 (cl_spans la lb a b) w) :=
    forall_cons (e_both hG h1 (pv rfl) ha za rfl rfl) (forall_cons (e_both hG h2 (pv rfl) hb zb rfl rfl) (forall_cons (e_rbetween (pr rfl) (pr rfl) rfl rfl rfl rfl) forall_nil))
  refine (run_mk hC hT 45 Tryz.f45 [.agg [.cls 0 1, .cls 1 1]] (.tup [sp 2 4, rsp 6 7]) 60 Tryz.func45 rfl rfl rfl (by kernel_rfl) [.agg #[str la, str lb]] ⟨_, _, rfl, ⟨[str la, str lb], ⟨[str la], _, rfl, ⟨fun _ => str la, rfl, rfl⟩, ⟨[str lb], _, rfl, ⟨fun _ => str lb, rfl, rfl⟩, rfl⟩⟩, rfl⟩, rfl⟩).mono ?_
  rintro e w' ⟨v, rfl, ⟨vs, ⟨v1, _, rfl, g1, v2, _, rfl, g2, rfl⟩, rfl⟩, hb⟩
  obtain ⟨q1, _, _⟩ := (sp_is rfl rfl).1 g1
  obtain ⟨q2, q3, q4⟩ := (rsp_is rfl rfl).1 g2
  exact ⟨v1, v2, rfl, q1, q2, q3, q4, hb⟩
theorem sameSpan_ok (x y : Value) (a b : Rat) (k : Nat) (w : World) (hx : IsS w x a b) (hy : RSp w y a b) (za : Siz a k) (zb : Siz b k) (hk : k ≤ 400000) : Calls Tryz.prog 46 #[x, y] w (Go.Proofs.YtccabfblgjcboaaGreatDoor.Val w (.bool true)) := by
  have hC : (mkC [4, 4, 3, 3] [true, true, true, true] okS 17 [clQ a k, clQ b k, clR a k, clR b k] w).Ok := mkC_ok (oks_cons (clQ_ok qrsT.1 _ _) (oks_cons (clQ_ok qrsT.1 _ _) (oks_cons (clR_ok qrsT.2 _ _) (oks_cons (clR_ok qrsT.2 _ _) oks_nil)))) rfl rfl
  have hf : fits (k + k) 1000000 = true := by simp only [fits, Bool.and_eq_true]; exact ⟨Nat.ble_eq_true_of_le (by omega), rfl⟩
  have hT : ∀ t ∈ ([⟨.call 13, [qp 0, rq 2], .val (vp (.bool true))⟩, ⟨.call 13, [qp 1, rq 3], .val (vp (.bool true))⟩] : List Ent), t.Valid (mkC [4, 4, 3, 3] [true, true, true, true] okS 17 [clQ a k, clQ b k, clR a k, clR b k] w) :=
    forall_cons (e_same (pq rfl) (pr rfl) hf (decide_eq_true rfl)) (forall_cons (e_same (pq rfl) (pr rfl) hf (decide_eq_true rfl)) forall_nil)
  refine (run_mk hC hT 46 Tryz.f46 [sp 0 1, rsp 2 3] (.val (vp (.bool true))) 60 Tryz.func46 rfl rfl rfl (by kernel_rfl) [x, y] ⟨_, _, rfl, (sp_is rfl rfl).2 ⟨hx, za, zb⟩, _, _, rfl, (rsp_is rfl rfl).2 ⟨hy, za, zb⟩, rfl⟩).mono ?_
  rintro e w' ⟨v, rfl, hv, hb⟩
  rw [val_of hv]
  exact ⟨rfl, hb⟩
section
variable {csz : List Nat} {numc : List Bool} {okT : List Nat} {nt : Nat} {cl : List Cl} {w0 : World} {p1 p2 : Pat} {c1 c2 c3 c4 : Nat} {la lb : List UInt8} {a b c d : Rat} {k1 k2 k3 k4 : Nat}
theorem e_spans (hG : Gr w0) (hl1 : la.length ≤ 100000) (hl2 : lb.length ≤ 100000) {i j : Nat} (hi : cl[i]? = some (clV (str la))) (hj : cl[j]? = some (clV (str lb))) (ha : (readQ la).1 = a) (hb : (readQ lb).1 = b) (za : Siz a 7) (zb : Siz b 7) (h1 : cl[c1]? = some (clQ a 7)) (h2 : cl[c2]? = some (clQ b 7)) (h3 : cl[c3]? = some (clR (minQ a b) 400)) (h4 : cl[c4]? = some (clR (maxQ a b) 400)) :
    V csz numc okT nt cl w0 (.call 45) [.agg [.cls i 1, .cls j 1]] (.tup [sp c1 c2, rsp c3 c4]) := by
  refine ⟨enters_of Tryz.func45 (by kernel_rfl) rfl, fun w vs hbw hvs => ?_⟩
  obtain ⟨v1, _, rfl, ⟨us, ⟨xs, ys, rfl, ⟨f, hE, rfl⟩, xs', ys', rfl, ⟨f', hE', rfl⟩, hy⟩, rfl⟩, rfl⟩ := hvs
  rw [show ys' = [] from hy]
  simp only [mkC, hi] at hE
  simp only [mkC, hj] at hE'
  have e1 : f 0 = str la := hE
  have e2 : f' 0 = str lb := hE'
  have e3 : (((List.range 1).map f ++ ((List.range 1).map f' ++ [])).toArray : Array Value) = #[str la, str lb] := by simp [List.range_succ, e1, e2]
  rw [e3]
  refine (spans_ok la lb a b w (hG.below hbw hG.size) hl1 hl2 ha hb za zb).mono ?_
  rintro e w' ⟨x, y, rfl, q1, q2, q3, q4, hb'⟩
  exact ⟨_, rfl, ⟨_, ⟨_, _, rfl, (sp_is h1 h2).2 ⟨q1, za, zb⟩, _, _, rfl, (rsp_is h3 h4).2 ⟨q2, q3, q4⟩, rfl⟩, rfl⟩, hb'⟩
theorem e_sameSpan (h1 : PS csz numc okT nt cl w0 p1 a k1 b k2) (h2 : PRS csz numc okT nt cl w0 p2 c k3 d k4) (hk : fits (k1 + k2 + k3 + k4) 400000 = true) (hac : a = c) (hbd : b = d) : V csz numc okT nt cl w0 (.call 46) [p1, p2] (.val (vp (.bool true))) := by
  subst hac hbd
  have hk := fits_le hk
  refine ⟨enters_of Tryz.func46 (by kernel_rfl) rfl, fun w vs hb hvs => ?_⟩
  obtain ⟨v1, _, rfl, h4, v2, _, rfl, h5, rfl⟩ := hvs
  have h4 := h1 _ _ h4
  have h5 := h2 _ _ h5
  refine (sameSpan_ok v1 v2 a b (k1 + k2 + k3 + k4) w h4.1 h5.1 (h4.2.1.le (by omega)) (h4.2.2.le (by omega)) (by omega)).mono ?_
  rintro e w' ⟨rfl, hb'⟩
  exact ⟨_, rfl, vp_r _ _ _, hb'⟩
end
end Sym
end Go.Proofs.YtccabfblgjcboaaGreatDoor

/- ExactGrids: for all texts the call returns true: the least span on any grid that has a span, or the error, is that of the document. No condition. -/
namespace Go.Proofs.YtccabfblgjcboaaGreatDoor
open Go Go.RowKit Go.Proofs Lim
namespace Sym
abbrev cl_gr (la lb lg : List UInt8) (a b g : Rat) : List Cl := [clV (str la), clV (str lb), clV (str lg), clQ a 7, clQ b 7, clR (minQ a b) 400, clR (maxQ a b) 400, clQ g 7, clR g 7, clQ (((Rat.floor (lowOf a [b] * g⁻¹) : Int) : Rat) * g) 30002, clQ (((Rat.ceil (highOf a [b] * g⁻¹) : Int) : Rat) * g) 30002,
  clR ((((Rat.floor ((minQ a b) / (g)) : Int) : Rat)) * (g)) 1202, clR ((((Rat.ceil ((maxQ a b) / (g)) : Int) : Rat)) * (g)) 1202, clQ 0 7]
noncomputable abbrev C_gr (la lb lg : List UInt8) (a b g : Rat) (w : World) : Ctx := mkC [1, 1, 1, 4, 4, 3, 3, 4, 3, 4, 4, 3, 3, 4] [true, true, true, true, true, true, true, true, true, true, true, true, true, true] okS 67 (cl_gr la lb lg a b g) w
theorem gr_C (la lb lg : List UInt8) (a b g : Rat) (w : World) : (C_gr la lb lg a b g w).Ok := by
  have q := fun r k => clQ_ok (okT := okS) (B := w.heap.size) qrsT.1 r k
  have p := fun r k => clR_ok (okT := okS) (B := w.heap.size) qrsT.2 r k
  exact mkC_ok (oks_cons (clVs_ok _) (oks_cons (clVs_ok _) (oks_cons (clVs_ok _) (oks_cons (q _ _) (oks_cons (q _ _) (oks_cons (p _ _) (oks_cons (p _ _) (oks_cons (q _ _) (oks_cons (p _ _) (oks_cons (q _ _) (oks_cons (q _ _) (oks_cons (p _ _) (oks_cons (p _ _) (oks_cons (q _ _) oks_nil)))))))))))))) rfl rfl
def t_gr0 (b : Bool) : List Ent := [⟨.call 23, [.slc 9 3 [.cls 0 1, .cls 1 1, .cls 2 1]], .val (vp (.bool b))⟩, ⟨.call 10, [], .val (vp (.bool true))⟩]
def t_gr1 (i : Int) : List Ent := [⟨.call 45, [.agg [.cls 0 1, .cls 1 1]], .tup [sp 3 4, rsp 5 6]⟩, ⟨.call 24, [op 2], .tup [qp 7, rq 8]⟩, ⟨.call 33, [rq 8], .val (vp (.int .i64 i))⟩]
def t_grN : List Ent := [⟨.call 66, [sp 3 4, qp 7], .tup [sp 13 13, vp (.int .i64 3)]⟩, ⟨.call 19, [qp 13], .val (vp (.int .i64 0))⟩]
def t_grY : List Ent := [⟨.call 66, [sp 3 4, qp 7], .tup [sp 9 10, vp (.int .i64 0)]⟩, ⟨.call 67, [rsp 5 6, rq 8], .val (rsp 11 12)⟩, ⟨.call 46, [sp 9 10, rsp 11 12], .val (vp (.bool true))⟩]
section
variable {la lb lg : List UInt8} {a b g : Rat} {w : World}
theorem gr0_T (hG : Gr w) {e : Bool} (h : [la, lb, lg].any (fun x => decide (120 < x.length)) = e) : ∀ t ∈ t_gr0 e, t.Valid (C_gr la lb lg a b g w) :=
  forall_cons (e_long (ls := [la, lb, lg]) ⟨_, _, rfl, rfl, ⟨_, _, rfl, rfl, ⟨_, _, rfl, rfl, rfl⟩⟩⟩ rfl rfl h) (forall_cons (e_known hG) forall_nil)
theorem gr1_T (hG : Gr w) (h1 : la.length ≤ 120) (h2 : lb.length ≤ 120) (h3 : lg.length ≤ 120) (ha : (readQ la).1 = a) (hb : (readQ lb).1 = b) (hg : (readQ lg).1 = g) {i : Int} (hi : sign g = i) : ∀ t ∈ t_gr1 i, t.Valid (C_gr la lb lg a b g w) := by
  have z1 : Siz a 7 := ha ▸ Siz.read la (L := 120) h1 (by decide) (by decide)
  have z2 : Siz b 7 := hb ▸ Siz.read lb (L := 120) h2 (by decide) (by decide)
  have z3 : Siz g 7 := hg ▸ Siz.read lg (L := 120) h3 (by decide) (by decide)
  exact forall_cons (e_spans hG (by omega) (by omega) rfl rfl ha hb z1 z2 rfl rfl rfl rfl) (forall_cons (e_both hG (by omega) (pv rfl) hg z3 rfl rfl) (forall_cons (e_rsign (pr rfl) hi) forall_nil))
theorem grN_T (hG : Gr w) (hi : sign g ≠ 1) : ∀ t ∈ t_grN, t.Valid (C_gr la lb lg a b g w) :=
  forall_cons (e_out0 hG (ps rfl rfl) (pq rfl) rfl rfl rfl hi) (forall_cons (e_sign (pq rfl) (by rfl)) forall_nil)
theorem grY_T (hG : Gr w) (hi : sign g = 1) : ∀ t ∈ t_grY, t.Valid (C_gr la lb lg a b g w) := by
  have h0 : decide (g.num = 0) = false := decide_eq_false (fun h => by unfold sign at hi; rw [if_pos h] at hi; cases hi)
  exact forall_cons (e_out hG (ps rfl rfl) (pq rfl) rfl rfl rfl rfl rfl hi) (forall_cons (e_rout (prs rfl rfl) (pr rfl) rfl rfl rfl h0 rfl rfl) (forall_cons (e_sameSpan (ps rfl rfl) (prs rfl rfl) rfl (by rw [low2, Rat.div_def]) (by rw [high2, Rat.div_def])) forall_nil))
end
set_option maxRecDepth 100000 in
theorem grids_walk (la lb lg : List UInt8) (w : World) (hG : Gr w) : Calls Tryz.prog 7 #[.agg #[str la, str lb], str lg] w (Go.Proofs.YtccabfblgjcboaaGreatDoor.Val w (.bool true)) := by
  have go : ∀ {a b g : Rat} {T : List Ent}, (∀ t ∈ T, t.Valid (C_gr la lb lg a b g w)) → runB (C_gr la lb lg a b g w).toStat T 200 (bodyOf Tryz.f7) Tryz.f7.results.toList [.agg [.cls 0 1, .cls 1 1], op 2] (.val (vp (.bool true))) = true → Calls Tryz.prog 7 #[.agg #[str la, str lb], str lg] w (Go.Proofs.YtccabfblgjcboaaGreatDoor.Val w (.bool true)) := by
    intro a b g T hT hrun
    refine (run_mk (gr_C la lb lg a b g w) hT 7 Tryz.f7 [.agg [.cls 0 1, .cls 1 1], op 2] (.val (vp (.bool true))) 200 Tryz.func7 rfl rfl rfl hrun [.agg #[str la, str lb], str lg] ⟨_, _, rfl, ⟨[str la, str lb], ⟨[str la], _, rfl, ⟨fun _ => str la, rfl, rfl⟩, ⟨[str lb], _, rfl, ⟨fun _ => str lb, rfl, rfl⟩, rfl⟩⟩, rfl⟩, _, _, rfl, (op_is rfl).2 rfl, rfl⟩).mono ?_
    rintro e w' ⟨v, rfl, hv, hb⟩
    rw [val_of hv]
    exact ⟨rfl, hb⟩
  cases h : [la, lb, lg].any (fun x => decide (120 < x.length)) with
  | true => exact go (a := 0) (b := 0) (g := 0) (gr0_T hG h) (by kernel_rfl)
  | false =>
    have hl : la.length ≤ 120 ∧ lb.length ≤ 120 ∧ lg.length ≤ 120 := by
      simp at h
      omega
    obtain ⟨a, ha⟩ : ∃ r, (readQ la).1 = r := ⟨_, rfl⟩
    obtain ⟨b, hb⟩ : ∃ r, (readQ lb).1 = r := ⟨_, rfl⟩
    obtain ⟨g, hg⟩ : ∃ r, (readQ lg).1 = r := ⟨_, rfl⟩
    rcases sign3 g with hi | hi | hi
    · exact go (t_app (gr0_T hG h) (t_app (gr1_T hG hl.1 hl.2.1 hl.2.2 ha hb hg hi) (grN_T hG (by rw [hi]; decide)))) (by kernel_rfl)
    · exact go (t_app (gr0_T hG h) (t_app (gr1_T hG hl.1 hl.2.1 hl.2.2 ha hb hg hi) (grN_T hG (by rw [hi]; decide)))) (by kernel_rfl)
    · exact go (t_app (gr0_T hG h) (t_app (gr1_T hG hl.1 hl.2.1 hl.2.2 ha hb hg hi) (grY_T hG hi))) (by kernel_rfl)
end Sym
end Go.Proofs.YtccabfblgjcboaaGreatDoor

/- ExactGrids: the statement, out of the walk. -/
namespace Go.Proofs.YtccabfblgjcboaaGreatDoor
open Go Go.RowKit Go.Proofs Lim
open Go.ChangeShapes Go.WideShapes Go.ChangeAt Go.ChangeMaps

namespace lawExactGrids

set_option maxRecDepth 100000 in
theorem contract (H : Type) (enc : TypeId × Value → H) (W : World) (base : Nat) (args : Array Value) (ds gs : List (DataW H)) (before : List MemPlace)
    (hval : ∀ (j : Nat) t v, Tryz.f7.params[j]? = some t → args[j]? = some v → Value.okWide Tryz.prog W .any base t v)
    (hW : DataW.Whole enc Tryz.prog Tryz.f7.params.toList Rows.exactGridsSpec.vars false W args.toList ds gs before) (hG : Gr W) :
    Calls Tryz.prog 7 args W fun e W' => ∃ v, e = .returned v ∧ Rows.exactGridsSpec.post enc Tryz.prog Tryz.f7 false true false false W args v W' := by
  have hW' := hW
  obtain ⟨p, q, hA0, hV, rfl, hfz, hnd⟩ := hW
  have hA : DataW.TrodAll enc Tryz.prog W 0 (fun _ => true) true Tryz.f7.params.toList args.toList ds p := hA0
  rw [Tryz.params7] at hA hval
  obtain ⟨v0, vs0, d0, ds0, p0, q0, hargs0, rfl, rfl, h0, r0⟩ := trodAll_cons hA
  obtain ⟨v1, vs1, d1, ds1, p1, q1, hargs1, rfl, rfl, h1, r1⟩ := trodAll_cons r0
  obtain ⟨rfl, rfl, rfl⟩ := trodAll_nil r1
  obtain rfl : args = #[v0, v1] := by cases args; simp_all
  obtain ⟨rfl, rfl⟩ := trodVars_none hV
  have hlt0 : ∀ x ∈ p0, x.block < W.heap.size := fun x hx => by simpa using hW'.lt x (by simp [hx])
  obtain ⟨sa, sb, rfl⟩ : ∃ sa sb : ByteArray, v0 = .agg #[.string sa, .string sb] := by
    obtain ⟨cs, rfl, hsz⟩ := okWide_struct Tryz.underlying64 (hval 0 64 v0 rfl rfl)
    obtain ⟨fuel, hf⟩ := h0
    obtain ⟨sa, sb, e⟩ := open_ends hf
    obtain ⟨cs⟩ := cs
    have e : cs = [.string sa, .string sb] := e
    exact ⟨sa, sb, by rw [e]⟩
  obtain ⟨s1, rfl, rfl, rfl, hs1⟩ := open_string Tryz.underlying9 (hval 1 9 v1 rfl rfl) h1
  clear hA0
  have walk := Sym.grids_walk sa.data.toList sb.data.toList s1.data.toList W hG
  refine walk.mono fun e W' ⟨he, hb⟩ => ?_
  subst he
  refine ⟨_, rfl, _, _, _, [], p0 ++ [], [], hW', ?_, ?_, ?_, hb.frame _, fun h => by cases h⟩
  · exact trodAll_cons_mk (shut_bool Tryz.underlying4 _) trodAll_mk0
  · exact trodAll_cons_mk (Below.trod laidOut (by kernel_rfl) (of_decide_eq_true (by kernel_rfl)) h0 hb hlt0) (trodAll_cons_mk (shut_string Tryz.underlying9 hs1) (trodAll_mk0))
  · trivial

theorem reads (os : Os) {H : Type} (enc : TypeId × Value → H) : ∃ places, DataW.whole enc Tryz.prog ((World.doorLaid Tryz.prog 400 os).forCall (fun _ _ => 0) ⟨#[], #[.agg #[.string ⟨#[]⟩, .string ⟨#[]⟩], .string ⟨#[]⟩], []⟩).memory Tryz.f7.params.toList Rows.exactGridsSpec.vars false #[Value.agg #[.string ⟨#[]⟩, .string ⟨#[]⟩], Value.string ⟨#[]⟩].toList 8 = some ([.agg [.lit (.string []), .lit (.string [])], .lit (.string [])], [], places) :=
  ⟨[], by kernel_rfl⟩

set_option maxRecDepth 100000 in
theorem lifted (os : Os) (started : os.Started) (H : Type) (enc : TypeId × Value → H) (F : Stop.Interp) :
    ReturnsInHanded {} Tryz.checked os 7 .any ((OpenSpec.ofChange Rows.exactGridsSpec).preRow enc Tryz.prog Tryz.f7 Rows.exactGridsRow.domain false Rows.exactGridsRow.laid) (((OpenSpec.ofChange Rows.exactGridsSpec).at F).post enc Tryz.prog Tryz.f7 false true false false) := by
  obtain ⟨places, hx⟩ := reads os enc
  refine returnsInHanded_of_row (C := Tryz.checked) (s := OpenSpec.ofChange Rows.exactGridsSpec) own started (by kernel_rfl) Tryz.func7
    (witness_row_atRef (enc := enc) (C := Tryz.checked) false (World.doorLaid Tryz.prog 400 os) #[Value.agg #[.string ⟨#[]⟩, .string ⟨#[]⟩], Value.string ⟨#[]⟩] rfl (by kernel_rfl) (by kernel_rfl) (by kernel_rfl)
      (OpenSpec.preRow_of_cond 8 hx (by kernel_rfl) (fun k hk => by cases hk) (by kernel_rfl) (door_met os _))) ?_
  intro W base args ds gs before hval hW _ _ _ hL hS _
  exact contract H enc W base args ds gs before hval hW (gr_of_laid hL hS)

theorem said : Rows.ExactGridsSaid :=
  OpenClaim.holds_of_cond 7 Tryz.f7 rfl rfl rfl rfl rfl rfl rfl ⟨rfl, rfl, rfl, rfl, rfl⟩ rfl rfl rfl rfl rfl (by kernel_rfl) Tryz.func7 (by kernel_rfl)
    (of_decide_eq_true (by kernel_rfl)) (by unfold Func.isWrapper; first | (rw [if_pos (by decide +kernel)]; kernel_rfl) | (rw [if_neg (by decide +kernel)]; exact ⟨rfl, rfl⟩))
    (fun os started H enc _ F => by rw [OpenClaim.pre_eq_preRow]; exact lifted os started H enc F)

theorem plain (f : FuncId) (fn : Func) (hf : Tryz.pinned.checked.prog.funcNamed "voussoir/voussoirlaw01.ExactGrids" = some f) (hfn : Tryz.pinned.checked.prog.funcs[f]? = some fn) :
    true = Tryz.pinned.checked.prog.looks [] ∧ ∀ (j : Nat) t, fn.params[j]? = some t → Tryz.pinned.checked.prog.wantsStandIn t = false := by
  obtain rfl : f = 7 := Option.some.inj ((show Tryz.prog.funcNamed "voussoir/voussoirlaw01.ExactGrids" = some 7 by kernel_rfl).symm.trans hf) |>.symm
  obtain rfl : fn = Tryz.f7 := (Option.some.inj (Tryz.func7.symm.trans hfn)).symm
  refine ⟨by kernel_rfl, fun j t ht => ?_⟩
  rw [Tryz.params7] at ht
  have hm : t ∈ [64, 9] := by simpa using Array.mem_of_getElem? ht
  have hall : ([64, 9].all fun u => !Tryz.prog.wantsStandIn u) = true := by kernel_rfl
  exact (show Tryz.prog.wantsStandIn t = false by simpa using List.all_eq_true.1 hall t hm)

theorem card : Rows.ExactGridsCardSaid :=
  Claim7.holds_tied_plain_at .later [] _ _ _ _ said (fun _ h => by cases h) (by kernel_rfl) (fun _ h => by cases h) exactGrids_row_tie rfl ⟨rfl, rfl⟩ (by kernel_rfl) rfl plain (by kernel_rfl)
end lawExactGrids
end Go.Proofs.YtccabfblgjcboaaGreatDoor
