/- Package exact, part 4: what its functions answer, as laws on the numbers that their values stand for (SpAbs SpOver KnownMath KnownBox Known LawNum LawEqual LawLong Ops OrdMath LawAt LawIns Cls ClsSp SpRuns). -/
import Derived.Test.YtnolcmoecodeaaaGreatDoorJ3
import Derived.KernelRfl
import Derived.Great.BuildSlice
set_option linter.unusedVariables false
set_option linter.unusedSimpArgs false

/- Span.Abs. -/
namespace Go.Proofs.YtnolcmoecodeaaaGreatDoor
open Go Go.RowKit Go.Proofs Lim

theorem siz_absQ {r : Rat} {k : Nat} (h : Siz r k) : Siz (absQ r) k := by
  unfold absQ
  split
  · exact h.neg
  · exact h

theorem spabs_any (v : Value) (lo hi : Rat) (k : Nat) (w : World) (h : IsS w v lo hi) (z1 : Siz lo k) (z2 : Siz hi k) (hk : ((k + k : Nat) : Int) ≤ 1073741824) (hG : Gr w) :
    Calls Tryz.prog 64 #[v] w (SpNew w (lowOf (absQ lo) (turnVals (hasQ lo hi 0) (absQ hi) (absQ 0))) (highOf (absQ lo) (turnVals (hasQ lo hi 0) (absQ hi) (absQ 0)))) := by
  have k1 := siz_zero_bits k z1
  have z0 : Siz 0 k := Siz.zero k k1
  obtain ⟨s1, a1, b1, p1, s2, a2, b2, p2, rfl, i1, i2⟩ := h
  have HU := Lib.hid (fun bt ct W (hW : Below w.heap.size w W) c0 c1 c2 c3 => under_one 43 #[] #[] (enters_of Tryz.func43 (by kernel_rfl) rfl) s1 s2 a1 b1 a2 b2 p1 p2 lo hi 0 (absQ lo) (absQ hi) (absQ 0) (k + k) W
    bt 0 ct false 0 0 none (i1.below hW (Nat.le_refl _)) (i2.below hW (Nat.le_refl _)) (zero_val W) c0 c1 c2 c3
    (fun W' hW' => abs_q _ lo W' ((i1.below hW (Nat.le_refl _)).below hW' (Nat.le_refl _)))
    (fun W' hW' => abs_q _ hi W' ((i2.below hW (Nat.le_refl _)).below hW' (Nat.le_refl _)))
    (fun _ W' hW' => abs_q _ 0 W' (zero_val W'))
    (z1.le (by omega)) (z2.le (by omega)) (z0.le (by omega)) ((siz_absQ z1).le (by omega)) ((siz_absQ z2).le (by omega)) (fun _ => (siz_absQ z0).le (by omega)) hk)
  clear i1 i2 z1 z2 z0 k1 hk hG
  generalize lowOf (absQ lo) (turnVals (hasQ lo hi 0) (absQ hi) (absQ 0)) = l at *
  generalize highOf (absQ lo) (turnVals (hasQ lo hi 0) (absQ hi) (absQ 0)) = g at *
  go_enter Tryz.func64, Tryz.ntmps64
  go_wp2_with fail
  obtain ⟨W0, hW0, hb0, _, hz, hs⟩ := box8z w (.bool s1) (u a1) (u b1) (.pointer p1) (.bool s2) (u a2) (u b2) (.pointer p2)
  rw [hW0]
  have hb1 := below1 W0 (.cells #[.bool false, .int .u64 0, .int .u64 0, .pointer none] 26)
  rw [← hs]
  refine (HU.out _ 1 _ (chain1 hb0 hb1) (World.cell?_alloc_new ..) (World.cell?_alloc_new ..) (World.cell?_alloc_new ..) (World.cell?_alloc_new ..)).mono ?_
  rintro e W9 ⟨v, rfl, hv, hb⟩
  have hz9 : ZBox8 W9 (w.heap.size + 1) := Box8.below (Box8.below hz hb1 (Nat.le_refl _)) hb (Nat.le_refl _)
  have HB9 := Lib.hid (chain1 (chain1 hb0 hb1) hb)
  rw [hs]
  clear hb0 hz hs hW0 HU hb1
  (have hv' := hv; obtain ⟨t1, d1, e1, q1, t2, d2, e2, q2, rfl, _, _⟩ := hv'; have HFin := Lib.hid (SpNew.stored (Box8.nbox hz9) hv HB9.out (by omega) (.bool t1) (u d1) (u e1) (.pointer q1) (.bool t2) (u d2) (u e2) (.pointer q2)); (obtain ⟨z0, z1, z2, z3, z4, z5, z6, z7⟩ := Box8.cells hz9; have zf0 := Box8.frozen hz9 0; have zf1 := Box8.frozen hz9 1; have zf2 := Box8.frozen hz9 2; have zf3 := Box8.frozen hz9 3; have zf4 := Box8.frozen hz9 4; have zf5 := Box8.frozen hz9 5; have zf6 := Box8.frozen hz9 6; have zf7 := Box8.frozen hz9 7); clear hv hz9; clear hb; go_wp2_with fail; refine bodyPost_ret (v := .agg #[.bool t1, u d1, u e1, .pointer q1, .bool t2, u d2, u e2, .pointer q2]) (by simp [results, Tryz.results64, go_sem, z0, z1, z2, z3, z4, z5, z6, z7]) rfl ?_; exact HFin.out)

end Go.Proofs.YtnolcmoecodeaaaGreatDoor

/- Span.Over: the span of quotients, or the error. -/
namespace Go.Proofs.YtnolcmoecodeaaaGreatDoor
open Go Go.RowKit Go.Proofs Lim

set_option maxHeartbeats 1000000 in
theorem over1_q (v1 v2 : Value) (r s : Rat) (k : Nat) (w : World) (h1 : IsQ w v1 r) (h2 : IsQ w v2 s) (h0 : s.num ≠ 0) (z1 : Siz r k) (z2 : Siz s k) (hk : (k : Int) ≤ 1073741824) (hG : Gr w) :
    Calls Tryz.prog 118 #[v1, v2] w (QNew w (r * s⁻¹)) := by
  have HN := Lib.hid (fun W (hW : Below w.heap.size w W) => recip_q v2 s W (h2.below hW (Nat.le_refl _)) h0)
  have HP := Lib.hid (fun v W (hv : IsQ W v s⁻¹) (hW : Below w.heap.size w W) => times_q v1 v r s⁻¹ k W (h1.below hW (Nat.le_refl _)) hv z1 (z2.inv h0) hk (hG.below hW hG.size))
  obtain ⟨neg1, a1, b1, p1, rfl⟩ := h1.form
  obtain ⟨neg2, a2, b2, p2, rfl⟩ := h2.form
  clear h1 h2 h0 z1 z2 hk hG
  generalize r * s⁻¹ = t at *
  generalize s⁻¹ = s' at *
  go_enter Tryz.func118, Tryz.ntmps118
  go_wp2_with fail
  obtain ⟨W0, hW0, hb0, ⟨f0, f1, f2, f3⟩, ⟨g0, g1, g2, g3⟩, hz⟩ := box3 w (.bool neg1) (u a1) (u b1) (.pointer p1) (.bool neg2) (u a2) (u b2) (.pointer p2); rw [← hW0]; clear hW0; have HZ := Lib.hid hz; have HW0 := Lib.hid hb0; have hb0 := Below.refl W0.heap.size W0; clear hz
  have n1 : ¬ w.heap.size = w.heap.size + 1 + 1 := by omega
  have n2 : ¬ w.heap.size + 1 + 1 = w.heap.size := by omega
  have n3 : w.heap.size ≠ w.heap.size + 1 + 1 := by omega
  go_region_held3 (fun w' => (w'.cell? ⟨w.heap.size, 0, none⟩ = some (.bool neg1) ∧ w'.cell? ⟨w.heap.size, 1, none⟩ = some (u a1) ∧ w'.cell? ⟨w.heap.size, 2, none⟩ = some (u b1) ∧ w'.cell? ⟨w.heap.size, 3, none⟩ = some (.pointer p1)) ∧ (w'.cell? ⟨w.heap.size + 1, 0, none⟩ = some (.bool neg2) ∧ w'.cell? ⟨w.heap.size + 1, 1, none⟩ = some (u a2) ∧ w'.cell? ⟨w.heap.size + 1, 2, none⟩ = some (u b2) ∧ w'.cell? ⟨w.heap.size + 1, 3, none⟩ = some (.pointer p2))) (go_keep) (first | ((with_reducible refine (HN.out _ ((chain1 HW0.out hb0).drew)).mono ?_); rintro e W1 ⟨vn, rfl, hvn, hb⟩; (obtain ⟨_, _, _, _⟩ := boxq (b := w.heap.size) hb (by assumption) (by assumption) (by assumption) (by assumption); obtain ⟨_, _, _, _⟩ := boxq (b := w.heap.size + 1) hb (by assumption) (by assumption) (by assumption) (by assumption)); obtain ⟨_, _, _, _, rfl⟩ := hvn.form) | ((with_reducible refine (HP.out _ _ hvn (chain1 HW0.out (chain hb0 hb))).mono ?_); rintro e W9 ⟨v, rfl, hv, hb'⟩; (obtain ⟨_, _, _, _⟩ := boxq (b := w.heap.size) hb' (by assumption) (by assumption) (by assumption) (by assumption); obtain ⟨_, _, _, _⟩ := boxq (b := w.heap.size + 1) hb' (by assumption) (by assumption) (by assumption) (by assumption)); have hv' := hv; obtain ⟨sg9, a9, b9, p9, rfl⟩ := hv'.form; have hb3 := chain1 (chain hb0 hb) hb'; (have hz := HZ.out.below hb3 (Nat.le_refl _); have zf := hz.frozen; obtain ⟨z0, z1, z2, z3⟩ := hz.cells; have zf0 := zf 0; have zf1 := zf 1; have zf2 := zf 2; have zf3 := zf 3; clear zf hz)))
  have hz := HZ.out.below hb3 (Nat.le_refl _)
  have hfin := QNew.stored (a0 := .bool sg9) (a1 := u a9) (a2 := u b9) (a3 := .pointer p9) hz hv (chain1 HW0.out hb3) (by omega)
  have HFin := Lib.hid hfin
  clear hfin hv hv' hvn hb hb' hb0 hb3 hz f0 f1 f2 f3 g0 g1 g2 g3
  go_wp2_with fail
  refine bodyPost_ret (v := .agg #[.bool sg9, u a9, u b9, .pointer p9]) (by simp [results, Tryz.results118, go_sem, z0, z1, z2, z3]) rfl ?_
  exact HFin.out


/-- No number of a span without 0 is 0. -/
theorem num_of_has {c d s : Rat} (h : hasQ c d 0 = false) (hs : s = c ∨ s = d) : s.num ≠ 0 := by
  intro e
  have e := num_zero.1 e
  have := hasQ_false h
  rcases hs with rfl | rfl
  · rw [e] at this; exact this (Btw.left _ _)
  · rw [e] at this; exact this (Btw.right _ _)

/-- What Over leaves where the divisor has no 0. -/
def OverS (w : World) (lo hi : Rat) (e : Ending) (w' : World) : Prop := ∃ v, e = .returned (.tuple #[v, .int .i64 0]) ∧ IsS w' v lo hi ∧ Below w.heap.size w w'

set_option maxHeartbeats 2000000 in
theorem spover_any (v1 v2 : Value) (a b c d : Rat) (k : Nat) (w : World) (h1 : IsS w v1 a b) (h2 : IsS w v2 c d) (h0 : hasQ c d 0 = false) (za : Siz a k) (zb : Siz b k) (zc : Siz c k) (zd : Siz d k) (hk : ((k + k : Nat) : Int) ≤ 1073741824) (hG : Gr w) :
    Calls Tryz.prog 68 #[v1, v2] w (OverS w (wLow (fun r s => r * s⁻¹) a b c d) (wHigh (fun r s => r * s⁻¹) a b c d)) := by
  have HW := Lib.hid (fun W (hW : Below w.heap.size w W) => with_op 118 (enters_of Tryz.func118 (by kernel_rfl) rfl) (fun r s => r * s⁻¹) v1 v2 a b c d k (k + k) W
    (fun x y r s W' hx hy _ hs z1 z2 hW' => over1_q x y r s k W' hx hy (num_of_has h0 hs) z1 z2 (by omega) ((hG.below hW hG.size).below hW' (Nat.le_trans hG.size hW.size))) (fun r s _ hs z1 z2 => z1.mul (z2.inv (num_of_has h0 hs))) (h1.below hW (Nat.le_refl _)) (h2.below hW (Nat.le_refl _)) za zb zc zd (by omega))
  have HH := Lib.hid (fun vz W (hW : Below w.heap.size w W) (hz : IsQ W vz 0) => has_any v2 vz c d 0 k W (h2.below hW (Nat.le_refl _)) hz zc zd (Siz.zero k (siz_zero_bits k za)) (by omega))
  rw [h0] at HH
  obtain ⟨s1, a1, b1, p1, s2, a2, b2, p2, rfl, _, _⟩ := h1
  obtain ⟨s3, a3, b3, p3, s4, a4, b4, p4, rfl, _, _⟩ := h2
  clear za zb zc zd hk hG h0
  generalize wLow (fun r s => r * s⁻¹) a b c d = lo at *
  generalize wHigh (fun r s => r * s⁻¹) a b c d = hi at *
  go_enter Tryz.func68, Tryz.ntmps68
  go_wp2_with fail
  obtain ⟨W0, hW0, hb0, hX, hY, hz, hs⟩ := box88z w (.bool s1) (u a1) (u b1) (.pointer p1) (.bool s2) (u a2) (u b2) (.pointer p2) (.bool s3) (u a3) (u b3) (.pointer p3) (.bool s4) (u a4) (u b4) (.pointer p4)
  rw [hW0]
  refine (HH.out _ _ hb0 (zero_val _)).mono ?_
  rintro e W1 ⟨rfl, hb⟩
  have hX := Box8.below hX hb (Nat.le_refl _)
  have hY := Box8.below hY hb (Nat.le_refl _)
  have HZ := Lib.hid (Box8.below hz hb (Nat.le_refl _))
  have HB := Lib.hid (chain1 hb0 hb)
  (obtain ⟨c0, c1, c2, c3, c4, c5, c6, c7⟩ := hX.cells)
  (obtain ⟨d0, d1, d2, d3, d4, d5, d6, d7⟩ := hY.cells)
  clear hX hY hz hs hW0 hb0 hb HH
  go_wp2_with fail
  refine (HW.out _ HB.out).mono ?_
  rintro e W9 ⟨v, rfl, hv, hb⟩
  have hz9 : ZBox8 W9 (w.heap.size + 1 + 1) := Box8.below HZ.out hb (Nat.le_refl _)
  have HB9 := Lib.hid (chain1 HB.out hb)
  clear c0 c1 c2 c3 c4 c5 c6 c7 d0 d1 d2 d3 d4 d5 d6 d7 hb
  have hv' := hv
  obtain ⟨t1, d1, e1, q1, t2, d2, e2, q2, rfl, _, _⟩ := hv'
  have HFin := Lib.hid (SpNew.stored (Box8.nbox hz9) hv HB9.out (by omega) (.bool t1) (u d1) (u e1) (.pointer q1) (.bool t2) (u d2) (u e2) (.pointer q2))
  (obtain ⟨z0, z1, z2, z3, z4, z5, z6, z7⟩ := Box8.cells hz9; have zf0 := Box8.frozen hz9 0; have zf1 := Box8.frozen hz9 1; have zf2 := Box8.frozen hz9 2; have zf3 := Box8.frozen hz9 3; have zf4 := Box8.frozen hz9 4; have zf5 := Box8.frozen hz9 5; have zf6 := Box8.frozen hz9 6; have zf7 := Box8.frozen hz9 7)
  clear hv hz9
  go_wp2_with fail
  refine bodyPost_ret (v := .tuple #[.agg #[.bool t1, u d1, u e1, .pointer q1, .bool t2, u d2, u e2, .pointer q2], .int .i64 0]) (by simp [results, Tryz.results68, go_sem, z0, z1, z2, z3, z4, z5, z6, z7]) rfl ?_
  obtain ⟨v, hv, hq, hbb⟩ := HFin.out
  injection hv with hv
  subst hv
  exact ⟨_, rfl, hq, hbb⟩

/-- The zero value of a span. -/
abbrev zspan : Value := .agg #[.bool false, .int .u64 0, .int .u64 0, .pointer none, .bool false, .int .u64 0, .int .u64 0, .pointer none]
theorem zspan_is (w : World) : IsS w zspan 0 0 := ⟨_, 0, 0, _, _, 0, 0, _, rfl, zero_val w, zero_val w⟩

theorem store8 {w W0 W : World} {R : Nat} (h0 : Below w.heap.size w W0) (h : Below W0.heap.size W0 W) (hR : w.heap.size ≤ R) (d0 d1 d2 d3 d4 d5 d6 d7 : Value) :
    Below w.heap.size w ((((((((W.setCell ⟨R, 0, none⟩ d0).setCell ⟨R, 1, none⟩ d1).setCell ⟨R, 2, none⟩ d2).setCell ⟨R, 3, none⟩ d3).setCell ⟨R, 4, none⟩ d4).setCell ⟨R, 5, none⟩ d5).setCell ⟨R, 6, none⟩ d6).setCell ⟨R, 7, none⟩ d7) :=
  (chain1 h0 h).trans ((only8 W R d0 d1 d2 d3 d4 d5 d6 d7).below hR)

set_option maxHeartbeats 2000000 in
theorem spover_zero (v1 v2 : Value) (a b c d : Rat) (k : Nat) (w : World) (h1 : IsS w v1 a b) (h2 : IsS w v2 c d) (h0 : hasQ c d 0 = true) (zc : Siz c k) (zd : Siz d k) (hk : (k : Int) ≤ 1073741824) :
    Calls Tryz.prog 68 #[v1, v2] w (fun e w' => e = .returned (.tuple #[zspan, .int .i64 10]) ∧ Below w.heap.size w w') := by
  have HH := Lib.hid (fun vz W (hW : Below w.heap.size w W) (hz : IsQ W vz 0) => has_any v2 vz c d 0 k W (h2.below hW (Nat.le_refl _)) hz zc zd (Siz.zero k (siz_zero_bits k zc)) hk)
  rw [h0] at HH
  obtain ⟨s1, a1, b1, p1, s2, a2, b2, p2, rfl, _, _⟩ := h1
  obtain ⟨s3, a3, b3, p3, s4, a4, b4, p4, rfl, _, _⟩ := h2
  clear zc zd hk h0
  go_enter Tryz.func68, Tryz.ntmps68
  go_wp2_with fail
  obtain ⟨W0, hW0, hb0, hX, hY, hz, hs⟩ := box88z w (.bool s1) (u a1) (u b1) (.pointer p1) (.bool s2) (u a2) (u b2) (.pointer p2) (.bool s3) (u a3) (u b3) (.pointer p3) (.bool s4) (u a4) (u b4) (.pointer p4)
  rw [hW0]
  refine (HH.out _ _ hb0 (zero_val _)).mono ?_
  rintro e W1 ⟨rfl, hb⟩
  have hz9 : ZBox8 W1 (w.heap.size + 1 + 1) := Box8.below hz hb (Nat.le_refl _)
  have HB := Lib.hid hb
  have HB0 := Lib.hid hb0
  (obtain ⟨z0, z1, z2, z3, z4, z5, z6, z7⟩ := Box8.cells hz9; have zf0 := Box8.frozen hz9 0; have zf1 := Box8.frozen hz9 1; have zf2 := Box8.frozen hz9 2; have zf3 := Box8.frozen hz9 3; have zf4 := Box8.frozen hz9 4; have zf5 := Box8.frozen hz9 5; have zf6 := Box8.frozen hz9 6; have zf7 := Box8.frozen hz9 7)
  clear hX hY hz hs hW0 hb0 hb HH hz9
  go_wp2_with fail
  refine bodyPost_ret (v := .tuple #[zspan, .int .i64 10]) (by simp [results, Tryz.results68, go_sem, z0, z1, z2, z3, z4, z5, z6, z7]) rfl ?_
  exact ⟨rfl, store8 HB0.out HB.out (by omega) _ _ _ _ _ _ _ _⟩

end Go.Proofs.YtnolcmoecodeaaaGreatDoor

/- The closed numbers of the examples. -/
namespace Go.Proofs.YtnolcmoecodeaaaGreatDoor
open Go Go.RowKit Go.Proofs Lim

theorem nt_small : ntext 0 = [48] ∧ ntext 1 = [49] ∧ ntext 2 = [50] ∧ ntext 3 = [51] ∧ ntext 4 = [52] ∧ ntext 8 = [56] := by
  refine ⟨?_, ?_, ?_, ?_, ?_, ?_⟩ <;> simp [ntext, digs_pos, digs_zero, dbyte]

theorem qtext_of {r : Rat} {i : Int} {d : Nat} (h1 : r.num = i) (h2 : r.den = d) : qtext r = (if i < 0 then [45] else []) ++ ntext i.natAbs ++ (if d = 1 then [] else 47 :: ntext d) := by
  unfold qtext
  rw [h1, h2]

abbrev qi (i : Int) : Rat := (i : Rat)

theorem kx : qtext (qi 6 / qi (-4)) = [45, 51, 47, 50] := by
  rw [qtext_of (i := -3) (d := 2) (by kernel_rfl) (by kernel_rfl)]
  show [45] ++ ntext 3 ++ (47 :: ntext 2) = _
  rw [nt_small.2.2.2.1, nt_small.2.2.1]; rfl
theorem kxf : qtext (((qi 6 / qi (-4)).floor : Int) : Rat) = [45, 50] := by
  rw [show (qi 6 / qi (-4)).floor = -2 by kernel_rfl, qtext_of (i := -2) (d := 1) rfl rfl]
  show [45] ++ ntext 2 ++ [] = _
  rw [nt_small.2.2.1]; rfl
theorem kxc : qtext (((qi 6 / qi (-4)).ceil : Int) : Rat) = [45, 49] := by
  rw [show (qi 6 / qi (-4)).ceil = -1 by kernel_rfl, qtext_of (i := -1) (d := 1) rfl rfl]
  show [45] ++ ntext 1 ++ [] = _
  rw [nt_small.2.1]; rfl
theorem kread : readQ [54, 47, 52] = (0, 4) := by
  refine (readQ_some (r := mkRat 3 2) (by decide) (by kernel_rfl)).trans (if_neg ?_)
  rw [qtext_of (i := 3) (d := 2) (by kernel_rfl) (by kernel_rfl)]
  show ¬ ([] ++ ntext 3 ++ (47 :: ntext 2) = _)
  rw [nt_small.2.2.2.1, nt_small.2.2.1]
  decide

/-- s is the span from -1 to 2, t that of its products with 3 to 4. -/
theorem ks : lowOf (qi 2) [qi (-1)] = qi (-1) ∧ highOf (qi 2) [qi (-1)] = qi 2 := ⟨by kernel_rfl, by kernel_rfl⟩
theorem kr : lowOf (qi 3) [qi 4] = qi 3 ∧ highOf (qi 3) [qi 4] = qi 4 := ⟨by kernel_rfl, by kernel_rfl⟩
theorem kv : lowOf (qi 0) [qi 3] = qi 0 ∧ highOf (qi 0) [qi 3] = qi 3 := ⟨by kernel_rfl, by kernel_rfl⟩
theorem kt : wLow (fun r s => r * s) (qi (-1)) (qi 2) (qi 3) (qi 4) = qi (-4) ∧ wHigh (fun r s => r * s) (qi (-1)) (qi 2) (qi 3) (qi 4) = qi 8 := ⟨by kernel_rfl, by kernel_rfl⟩
theorem kq : lowOf (qi (-1) * qi (-1)) (turnVals (hasQ (qi (-1)) (qi 2) 0) (qi 2 * qi 2) (0 * 0)) = qi 0 := by kernel_rfl
theorem ku : lowOf (quadAt (qi 1) (qi (-2)) (qi 0) (qi 0)) (quadVals (qi 1) (qi (-2)) (qi 0) (qi 0) (qi 3)) = qi (-1) ∧ highOf (quadAt (qi 1) (qi (-2)) (qi 0) (qi 0)) (quadVals (qi 1) (qi (-2)) (qi 0) (qi 0) (qi 3)) = qi 3 := ⟨by kernel_rfl, by kernel_rfl⟩

theorem kt4 : qtext (qi (-4)) = [45, 52] := by
  rw [qtext_of (i := -4) (d := 1) rfl rfl]
  show [45] ++ ntext 4 ++ [] = _
  rw [nt_small.2.2.2.2.1]; rfl
theorem kt8 : qtext (qi 8) = [56] := by
  rw [qtext_of (i := 8) (d := 1) rfl rfl]
  show [] ++ ntext 8 ++ [] = _
  rw [nt_small.2.2.2.2.2]; rfl
theorem kt0 : qtext (qi 0) = [48] := by
  rw [qtext_of (i := 0) (d := 1) rfl rfl]
  show [] ++ ntext 0 ++ [] = _
  rw [nt_small.1]; rfl
theorem kt1 : qtext (qi (-1)) = [45, 49] := by
  rw [qtext_of (i := -1) (d := 1) rfl rfl]
  show [45] ++ ntext 1 ++ [] = _
  rw [nt_small.2.1]; rfl
theorem kt3 : qtext (qi 3) = [51] := by
  rw [qtext_of (i := 3) (d := 1) rfl rfl]
  show [] ++ ntext 3 ++ [] = _
  rw [nt_small.2.2.2.1]; rfl

theorem siz_qi (i : Int) (h1 : -9223372036854775808 ≤ i) (h2 : i ≤ 9223372036854775807) : Siz (qi i) 1 := siz_int i h1 h2

end Go.Proofs.YtnolcmoecodeaaaGreatDoor

/- known: the examples of the document. -/
namespace Go.Proofs.YtnolcmoecodeaaaGreatDoor
open Go Go.RowKit Go.Proofs Lim

theorem newbox8 (w : World) (c0 c1 c2 c3 c4 c5 c6 c7 : Value) : ∃ W, w.alloc (.cells #[c0, c1, c2, c3, c4, c5, c6, c7] 66) = W ∧ Below w.heap.size w W ∧ Box8 W w.heap.size c0 c1 c2 c3 c4 c5 c6 c7 :=
  ⟨_, rfl, below1 w _, Box8.new w c0 c1 c2 c3 c4 c5 c6 c7⟩

/-- A new box of a span behind w0. -/
def ZAt (w0 W : World) (m : Nat) : Prop := w0.heap.size ≤ m ∧ ZBox8 W m

theorem ZAt.keep {w0 W W' : World} {m : Nat} (h : ZAt w0 W m) (hb : Below W.heap.size W W') : ZAt w0 W' m := ⟨h.1, Box8.below h.2 hb (Nat.le_refl _)⟩
theorem ZAt.new {w0 W W' : World} (hb0 : Below w0.heap.size w0 W) (hb : Below (W.alloc (.cells #[.bool false, .int .u64 0, .int .u64 0, .pointer none, .bool false, .int .u64 0, .int .u64 0, .pointer none] 66)).heap.size (W.alloc (.cells #[.bool false, .int .u64 0, .int .u64 0, .pointer none, .bool false, .int .u64 0, .int .u64 0, .pointer none] 66)) W') : ZAt w0 W' W.heap.size :=
  ⟨hb0.size, Box8.below (Box8.new W _ _ _ _ _ _ _ _) hb (Nat.le_refl _)⟩

theorem ZAt.drew {w0 W W' : World} (hb0 : Below w0.heap.size w0 W) (hb : Below (W.alloc (.cells #[.bool false, .int .u64 0, .int .u64 0, .pointer none, .bool false, .int .u64 0, .int .u64 0, .pointer none] 66)).drew.heap.size (W.alloc (.cells #[.bool false, .int .u64 0, .int .u64 0, .pointer none, .bool false, .int .u64 0, .int .u64 0, .pointer none] 66)).drew W') : ZAt w0 W' W.heap.size :=
  ⟨hb0.size, Box8.below (W := (W.alloc (.cells #[.bool false, .int .u64 0, .int .u64 0, .pointer none, .bool false, .int .u64 0, .int .u64 0, .pointer none] 66)).drew) (show Box8 (W.alloc (.cells #[.bool false, .int .u64 0, .int .u64 0, .pointer none, .bool false, .int .u64 0, .int .u64 0, .pointer none] 66)) _ _ _ _ _ _ _ _ _ from Box8.new W _ _ _ _ _ _ _ _) hb (Nat.le_refl _)⟩

/-- What a drawn statement t := ... of a span leaves. -/
def KBox (w0 : World) (lo hi : Rat) (s : Value) (wx : World) : Prop := ∃ m t1 ta tb tp t2 tc td tq, s = .pointer (some ⟨m, 0, none⟩) ∧ Box8 wx m (.bool t1) (u ta) (u tb) (.pointer tp) (.bool t2) (u tc) (u td) (.pointer tq) ∧
  IsQ wx (.agg #[.bool t1, u ta, u tb, .pointer tp]) lo ∧ IsQ wx (.agg #[.bool t2, u tc, u td, .pointer tq]) hi ∧ Below w0.heap.size w0 wx

theorem KBox.stored {w0 W : World} {R : Nat} {lo hi : Rat} {t1 t2 : Bool} {ta tb tc td : Nat} {tp tq : Option Addr} (hR : ZAt w0 W R) (h : IsS W (.agg #[.bool t1, u ta, u tb, .pointer tp, .bool t2, u tc, u td, .pointer tq]) lo hi) (hb : Below w0.heap.size w0 W) :
    KBox w0 lo hi (.pointer (some ⟨R, 0, none⟩)) ((((((((W.setCell ⟨R, 0, none⟩ (.bool t1)).setCell ⟨R, 1, none⟩ (u ta)).setCell ⟨R, 2, none⟩ (u tb)).setCell ⟨R, 3, none⟩ (.pointer tp)).setCell ⟨R, 4, none⟩ (.bool t2)).setCell ⟨R, 5, none⟩ (u tc)).setCell ⟨R, 6, none⟩ (u td)).setCell ⟨R, 7, none⟩ (.pointer tq)) := by
  have ho := only8 W R (.bool t1) (u ta) (u tb) (.pointer tp) (.bool t2) (u tc) (u td) (.pointer tq)
  obtain ⟨_, _, _, _, _, _, _, _, he, h1, h2⟩ := h
  simp only [Value.agg.injEq, Array.mk.injEq, List.cons.injEq, and_true] at he
  obtain ⟨e1, e2, e3, e4, e5, e6, e7, e8⟩ := he
  rw [← e1, ← e2, ← e3, ← e4] at h1
  rw [← e5, ← e6, ← e7, ← e8] at h2
  exact ⟨R, t1, ta, tb, tp, t2, tc, td, tq, rfl, Box8.setHigh (Box8.setLow hR.2 _ _ _ _) _ _ _ _, h1.other (Box8.nbox hR.2) ho, h2.other (Box8.nbox hR.2) ho, hb.trans (ho.below hR.1)⟩

theorem KBox.fresh {w0 W : World} {lo hi : Rat} {t1 t2 : Bool} {ta tb tc td : Nat} {tp tq : Option Addr} (h : IsS W (.agg #[.bool t1, u ta, u tb, .pointer tp, .bool t2, u tc, u td, .pointer tq]) lo hi) (hb : Below w0.heap.size w0 W) :
    KBox w0 lo hi (.pointer (some ⟨W.heap.size, 0, none⟩)) (W.alloc (.cells #[.bool t1, u ta, u tb, .pointer tp, .bool t2, u tc, u td, .pointer tq] 66)) := by
  obtain ⟨_, _, _, _, _, _, _, _, he, h1, h2⟩ := h
  simp only [Value.agg.injEq, Array.mk.injEq, List.cons.injEq, and_true] at he
  obtain ⟨e1, e2, e3, e4, e5, e6, e7, e8⟩ := he
  rw [← e1, ← e2, ← e3, ← e4] at h1
  rw [← e5, ← e6, ← e7, ← e8] at h2
  exact ⟨W.heap.size, t1, ta, tb, tp, t2, tc, td, tq, rfl, Box8.new W _ _ _ _ _ _ _ _, h1.below (below1 W _) (Nat.le_refl _), h2.below (below1 W _) (Nat.le_refl _), chain1 hb (below1 W _)⟩

theorem field_low (s1 s2 : Bool) (a b c d : Nat) (p q : Option Addr) (W : World) : (Instr.field 66 (.agg #[.bool s1, u a, u b, .pointer p, .bool s2, u c, u d, .pointer q]) 0).run Tryz.prog W = .ok (.agg #[.bool s1, u a, u b, .pointer p]) W := by kernel_rfl

end Go.Proofs.YtnolcmoecodeaaaGreatDoor

/- known: the examples of the document. -/
namespace Go.Proofs.YtnolcmoecodeaaaGreatDoor
open Go Go.RowKit Go.Proofs Lim

set_option maxHeartbeats 2000000 in
theorem known_any (w : World) (hG : Gr w) : Calls Tryz.prog 14 #[] w (Val w (.bool true)) := by
  have HG := Lib.hid (fun W (hW : Below w.heap.size w W) => hG.below hW hG.size)
  clear hG
  have HOf := Lib.hid (fun W hG => of_q 6 (-4) (by decide) (by decide) (by decide) (by decide) W hG)
  have HRd := Lib.hid (fun W hG => show Calls Tryz.prog 15 #[.string ⟨#[54, 47, 52]⟩] W (ReadPost W [54, 47, 52]) from read_any [54, 47, 52] W (by decide) hG)
  go_enter Tryz.func14, Tryz.ntmps14
  go_wp2_with fail
  refine (HOf.out _ (HG.out _ (Below.refl _ _))).mono ?_
  rintro e W1 (⟨h0, _⟩ | ⟨_, vx, rfl, hx, hb⟩)
  · exact absurd h0 (by decide)
  have HA1 := Lib.hid hb
  have HX := Lib.hid hx
  obtain ⟨sx, ax, bx, px, rfl⟩ := hx.form
  clear hb hx HOf
  go_wp2_with fail
  obtain ⟨W2, hW, hb, ⟨f0, f1, f2, f3⟩⟩ := box1 W1 (.bool sx) (u ax) (u bx) (.pointer px); rw [← hW]; clear hW
  have HA2 := Lib.hid (chain1 HA1.out hb)
  have HX := Lib.hid (HX.out.below hb (Nat.le_refl _))
  clear hb HA1
  generalize W1.heap.size = n1 at *
  refine (HRd.out _ (HG.out _ HA2.out)).mono ?_
  rintro e W3 ⟨v0, rfl, h0, hb⟩
  (have hh := boxq (b := n1) hb f0 f1 f2 f3; clear f0 f1 f2 f3; obtain ⟨f0, f1, f2, f3⟩ := hh)
  rw [kread] at h0 ⊢
  obtain ⟨s0, a0, b0, p0, rfl⟩ := h0.form
  have HA3 := Lib.hid (chain1 HA2.out hb)
  have HX := Lib.hid (HX.out.below hb (Nat.le_refl _))
  clear hb HA2 HRd h0
  have l1 : n1 < W3.heap.size := World.block_lt_of_cell? W3 _ f0
  go_wp2_with fail
  -- REST
  have hb := below1 W3 (.cells #[.bool s0, u a0, u b0, .pointer p0] 26)
  obtain ⟨W4, hW⟩ : ∃ W, W3.alloc (.cells #[.bool s0, u a0, u b0, .pointer p0] 26) = W := ⟨_, rfl⟩
  rw [hW] at hb ⊢
  clear hW l1
  have HX := Lib.hid (HX.out.below hb (Nat.le_refl _))
  (have hh := boxq (b := n1) hb f0 f1 f2 f3; clear f0 f1 f2 f3; obtain ⟨f0, f1, f2, f3⟩ := hh)
  have HA4 := Lib.hid (chain1 HA3.out hb)
  clear hb HA3
  have kz : Siz (qi 6 / qi (-4)) 2 := (siz_qi 6 (by decide) (by decide)).div (siz_qi (-4) (by decide) (by decide)) (by decide)
  have HTx := Lib.hid (fun v W (hv : IsQ W v (qi 6 / qi (-4))) => (kx ▸ text_q v _ 2 W hv kz (by decide) : Calls Tryz.prog 18 #[v] W (StrNew W [45, 51, 47, 50])))
  have HFl := Lib.hid (fun v W (hv : IsQ W v (qi 6 / qi (-4))) hG => floor_q v _ 2 W hv kz (by decide) (by decide) hG)
  have HCe := Lib.hid (fun v W (hv : IsQ W v (qi 6 / qi (-4))) hG => ceil_q v _ 2 W hv kz (by decide) (by decide) hG)
  have HTf := Lib.hid (fun v W (hv : IsQ W v (((qi 6 / qi (-4)).floor : Int) : Rat)) => (kxf ▸ text_q v _ 1 W hv (siz_int _ (by rw [show (qi 6 / qi (-4)).floor = -2 by kernel_rfl]; decide) (by rw [show (qi 6 / qi (-4)).floor = -2 by kernel_rfl]; decide)) (by decide) : Calls Tryz.prog 18 #[v] W (StrNew W [45, 50])))
  have HTc := Lib.hid (fun v W (hv : IsQ W v (((qi 6 / qi (-4)).ceil : Int) : Rat)) => (kxc ▸ text_q v _ 1 W hv (siz_int _ (by rw [show (qi 6 / qi (-4)).ceil = -1 by kernel_rfl]; decide) (by rw [show (qi 6 / qi (-4)).ceil = -1 by kernel_rfl]; decide)) (by decide) : Calls Tryz.prog 18 #[v] W (StrNew W [45, 49])))
  clear kz
  refine (HTx.out _ _ HX.out).mono ?_
  rintro e W5 ⟨rfl, hb⟩
  have HX := Lib.hid (HX.out.below hb (Nat.le_refl _))
  (have hh := boxq (b := n1) hb f0 f1 f2 f3; clear f0 f1 f2 f3; obtain ⟨f0, f1, f2, f3⟩ := hh)
  have HA5 := Lib.hid (chain1 HA4.out hb)
  clear hb HA4
  go_wp2_with fail
  refine (HFl.out _ _ HX.out (HG.out _ HA5.out)).mono ?_
  rintro e W6 ⟨vf, rfl, hvf, hb⟩
  have HX := Lib.hid (HX.out.below hb (Nat.le_refl _))
  (have hh := boxq (b := n1) hb f0 f1 f2 f3; clear f0 f1 f2 f3; obtain ⟨f0, f1, f2, f3⟩ := hh)
  have HA6 := Lib.hid (chain1 HA5.out hb)
  have HVF := Lib.hid hvf
  obtain ⟨_, _, _, _, rfl⟩ := hvf.form
  clear hvf
  clear hb HA5
  go_wp2_with fail
  refine (HTf.out _ _ HVF.out).mono ?_
  rintro e W7 ⟨rfl, hb⟩
  have HX := Lib.hid (HX.out.below hb (Nat.le_refl _))
  (have hh := boxq (b := n1) hb f0 f1 f2 f3; clear f0 f1 f2 f3; obtain ⟨f0, f1, f2, f3⟩ := hh)
  have HA7 := Lib.hid (chain1 HA6.out hb)
  clear hb HA6
  go_wp2_with fail
  refine (HCe.out _ _ HX.out (HG.out _ HA7.out)).mono ?_
  rintro e W8 ⟨vc, rfl, hvc, hb⟩
  have HX := Lib.hid (HX.out.below hb (Nat.le_refl _))
  (have hh := boxq (b := n1) hb f0 f1 f2 f3; clear f0 f1 f2 f3; obtain ⟨f0, f1, f2, f3⟩ := hh)
  have HA8 := Lib.hid (chain1 HA7.out hb)
  have HVC := Lib.hid hvc
  obtain ⟨_, _, _, _, rfl⟩ := hvc.form
  clear hvc
  clear hb HA7
  go_wp2_with fail
  refine (HTc.out _ _ HVC.out).mono ?_
  rintro e W9 ⟨rfl, hb⟩
  have HA9 := Lib.hid (chain1 HA8.out hb)
  clear hb HA8
  clear f0 f1 f2 f3 HX HVF HVC HTx HFl HCe HTf HTc
  go_wp2_with fail
  have HI := Lib.hid (fun W => int_q (2) (by decide) (by decide) W)
  refine (HI.out _).mono ?_
  rintro e W10 ⟨va, rfl, hva, hb⟩
  have HA10 := Lib.hid (chain1 HA9.out hb)
  have HVA := Lib.hid hva
  obtain ⟨_, _, _, _, rfl⟩ := hva.form
  clear hva
  clear hb HA9
  clear HI
  go_wp2_with fail
  have HI := Lib.hid (fun W => int_q (-1) (by decide) (by decide) W)
  refine (HI.out _).mono ?_
  rintro e W11 ⟨vb, rfl, hvb, hb⟩
  have HVA := Lib.hid (HVA.out.below hb (Nat.le_refl _))
  have HA11 := Lib.hid (chain1 HA10.out hb)
  have HVB := Lib.hid hvb
  obtain ⟨_, _, _, _, rfl⟩ := hvb.form
  clear hvb
  clear hb HA10
  clear HI
  go_wp2_with fail
  have HBt := Lib.hid (fun v1 v2 W h1 h2 => between_any v1 v2 (qi (2)) (qi (-1)) 1 W h1 h2 (siz_qi _ (by decide) (by decide)) (siz_qi _ (by decide) (by decide)) (by decide))
  rw [ks.1, ks.2] at HBt
  refine (HBt.out _ _ _ HVA.out HVB.out).mono ?_
  rintro e W12 ⟨vs, rfl, hvs, hb⟩
  have HA12 := Lib.hid (chain1 HA11.out hb)
  have HVS := Lib.hid hvs
  clear hb HA11
  clear HBt HVA HVB
  obtain ⟨s1, sa, sb, sp, s2, sc, sd, sq, rfl, hl, hh⟩ := hvs
  go_wp2_with fail
  obtain ⟨W13, hW, hb, hX⟩ := newbox8 W12 (.bool s1) (u sa) (u sb) (.pointer sp) (.bool s2) (u sc) (u sd) (.pointer sq)
  rw [hW]
  clear hW
  have HS8 := Lib.hid hX
  have HLs := Lib.hid (hl.below hb (Nat.le_refl _))
  have HHs := Lib.hid (hh.below hb (Nat.le_refl _))
  have HA13 := Lib.hid (chain1 HA12.out hb)
  clear hX hl hh HVS
  clear hb HA12
  generalize W12.heap.size = n5 at *
  have HI3 := Lib.hid (fun W => (int_q 3 (by decide) (by decide) W : Calls Tryz.prog 19 #[.int .i64 3] W (QNew W (qi 3))))
  have HI4 := Lib.hid (fun W => (int_q 4 (by decide) (by decide) W : Calls Tryz.prog 19 #[.int .i64 4] W (QNew W (qi 4))))
  have HBt := Lib.hid (fun v1 v2 W h1 h2 => between_any v1 v2 (qi 3) (qi 4) 1 W h1 h2 (siz_qi _ (by decide) (by decide)) (siz_qi _ (by decide) (by decide)) (by decide))
  rw [kr.1, kr.2] at HBt
  have HTm := Lib.hid (fun v1 v2 W h1 h2 hG => sptimes_any v1 v2 (qi (-1)) (qi 2) (qi 3) (qi 4) 1 W h1 h2 (siz_qi _ (by decide) (by decide)) (siz_qi _ (by decide) (by decide)) (siz_qi _ (by decide) (by decide)) (siz_qi _ (by decide) (by decide)) (by decide) hG)
  rw [kt.1, kt.2] at HTm
  have HsS := Lib.hid (show IsS W13 (.agg #[.bool s1, u sa, u sb, .pointer sp, .bool s2, u sc, u sd, .pointer sq]) (qi (-1)) (qi 2) from ⟨_, _, _, _, _, _, _, _, rfl, HLs.out, HHs.out⟩)
  go_upto_region 6 with fail
  go_cut [6] from 42 to 46 (fun s6 wx => KBox W13 (qi (-4)) (qi 8) s6 wx)
  case first =>
    have hb0 := Below.refl W13.heap.size W13
    obtain ⟨c0, c1, c2, c3, c4, c5, c6, c7⟩ := HS8.out.cells
    have lt13 : n5 < W13.heap.size := Box8.lt HS8.out
    have na13 := Nat.ne_of_lt lt13
    have nb13 := na13.symm
    go_region_held3 (fun w' => w'.cell? ⟨n5, 0, none⟩ = some (.bool s1) ∧ w'.cell? ⟨n5, 1, none⟩ = some (u sa) ∧ w'.cell? ⟨n5, 2, none⟩ = some (u sb) ∧ w'.cell? ⟨n5, 3, none⟩ = some (.pointer sp) ∧ w'.cell? ⟨n5, 4, none⟩ = some (.bool s2) ∧ w'.cell? ⟨n5, 5, none⟩ = some (u sc) ∧ w'.cell? ⟨n5, 6, none⟩ = some (u sd) ∧ w'.cell? ⟨n5, 7, none⟩ = some (.pointer sq)) (go_keep) (first | ((with_reducible refine (HI3.out _).mono ?_); rintro e W14 ⟨va, rfl, hva, hb⟩; obtain ⟨_, _, _, _, rfl⟩ := hva.form; ((first | have hz := ZAt.keep hz hb | have hz := ZAt.new hb0 hb | have hz := ZAt.drew hb0 hb | skip); have hb0 : Below W13.heap.size W13 W14 := (by first | exact chain1 hb0 hb | exact chain1 (chain1 hb0 (below1 _ _)) hb | exact chain hb0 hb | exact chain (chain1 hb0 (below1 _ _)) hb); clear c0 c1 c2 c3 c4 c5 c6 c7; have hX := Box8.below HS8.out hb0 (Nat.le_refl _); (obtain ⟨c0, c1, c2, c3, c4, c5, c6, c7⟩ := hX.cells); have lt14 : n5 < W14.heap.size := Box8.lt hX; have na14 := Nat.ne_of_lt lt14; have nb14 := na14.symm; clear hX); clear hb) | ((with_reducible refine (HI4.out _).mono ?_); rintro e W15 ⟨vb, rfl, hvb, hb⟩; obtain ⟨_, _, _, _, rfl⟩ := hvb.form; (first | replace hva := hva.below hb (Nat.le_refl _) | replace hva := (hva.below (below1 _ _) (Nat.le_refl _)).below hb (Nat.le_refl _)); ((first | have hz := ZAt.keep hz hb | have hz := ZAt.new hb0 hb | have hz := ZAt.drew hb0 hb | skip); have hb0 : Below W13.heap.size W13 W15 := (by first | exact chain1 hb0 hb | exact chain1 (chain1 hb0 (below1 _ _)) hb | exact chain hb0 hb | exact chain (chain1 hb0 (below1 _ _)) hb); clear c0 c1 c2 c3 c4 c5 c6 c7; have hX := Box8.below HS8.out hb0 (Nat.le_refl _); (obtain ⟨c0, c1, c2, c3, c4, c5, c6, c7⟩ := hX.cells); have lt15 : n5 < W15.heap.size := Box8.lt hX; have na15 := Nat.ne_of_lt lt15; have nb15 := na15.symm; clear hX); clear hb) | ((with_reducible refine (HBt.out _ _ _ ?_ ?_).mono ?_); (first | exact hva | exact hva.below (below1 _ _) (Nat.le_refl _)); (first | exact hvb | exact hvb.below (below1 _ _) (Nat.le_refl _)); rintro e W16 ⟨vt, rfl, hvt, hb⟩; have hvt' := hvt; obtain ⟨_, _, _, _, _, _, _, _, rfl, -, -⟩ := hvt'; ((first | have hz := ZAt.keep hz hb | have hz := ZAt.new hb0 hb | have hz := ZAt.drew hb0 hb | skip); have hb0 : Below W13.heap.size W13 W16 := (by first | exact chain1 hb0 hb | exact chain1 (chain1 hb0 (below1 _ _)) hb | exact chain hb0 hb | exact chain (chain1 hb0 (below1 _ _)) hb); clear c0 c1 c2 c3 c4 c5 c6 c7; have hX := Box8.below HS8.out hb0 (Nat.le_refl _); (obtain ⟨c0, c1, c2, c3, c4, c5, c6, c7⟩ := hX.cells); have lt16 : n5 < W16.heap.size := Box8.lt hX; have na16 := Nat.ne_of_lt lt16; have nb16 := na16.symm; clear hX); clear hb) | ((with_reducible refine (HTm.out _ _ _ ?_ ?_ ?_).mono ?_); (first | exact HsS.out.below hb0 (Nat.le_refl _) | exact HsS.out.below (chain1 hb0 (below1 _ _)) (Nat.le_refl _)); (first | exact hvt | exact hvt.below (below1 _ _) (Nat.le_refl _)); (first | exact HG.out _ (chain1 HA13.out hb0) | exact HG.out _ (chain1 HA13.out (chain1 hb0 (below1 _ _)))); rintro e W17 ⟨v, rfl, hv, hb⟩; have hv' := hv; obtain ⟨t1, ta, tb, tp, t2, tc, td, tq, rfl, -, -⟩ := hv'; ((first | have hz := ZAt.keep hz hb | have hz := ZAt.new hb0 hb | have hz := ZAt.drew hb0 hb | skip); have hb0 : Below W13.heap.size W13 W17 := (by first | exact chain1 hb0 hb | exact chain1 (chain1 hb0 (below1 _ _)) hb | exact chain hb0 hb | exact chain (chain1 hb0 (below1 _ _)) hb); clear c0 c1 c2 c3 c4 c5 c6 c7; have hX := Box8.below HS8.out hb0 (Nat.le_refl _); (obtain ⟨c0, c1, c2, c3, c4, c5, c6, c7⟩ := hX.cells); have lt17 : n5 < W17.heap.size := Box8.lt hX; have na17 := Nat.ne_of_lt lt17; have nb17 := na17.symm; clear hX); clear hb; (first | (have hz9 := hz.2; (obtain ⟨z0, z1, z2, z3, z4, z5, z6, z7⟩ := Box8.cells hz9; have zf0 := Box8.frozen hz9 0; have zf1 := Box8.frozen hz9 1; have zf2 := Box8.frozen hz9 2; have zf3 := Box8.frozen hz9 3; have zf4 := Box8.frozen hz9 4; have zf5 := Box8.frozen hz9 5; have zf6 := Box8.frozen hz9 6; have zf7 := Box8.frozen hz9 7); have HZz := Lib.hid hz; clear hz hz9) | skip); have HVv := Lib.hid hv; have HBb := Lib.hid hb0; clear hv hb0 hva hvb hvt))
    all_goals (clear c0 c1 c2 c3 c4 c5 c6 c7; rename_i hS; clear hS; go_wp2_with fail; go_meet; first | (have hz := HZz.out; exact KBox.stored hz HVv.out HBb.out) | exact KBox.fresh HVv.out HBb.out)
  case rest =>
    obtain ⟨n6, t1, ta, tb, tp, t2, tc, td, tq, rfl, hX, hl, hh, hb⟩ := hcut
    obtain ⟨W17, hW17⟩ : ∃ W, W = wc := ⟨_, rfl⟩
    subst hW17
    have HT8 := Lib.hid hX
    have HLt := Lib.hid hl
    have HHt := Lib.hid hh
    have HS8 := Lib.hid (Box8.below HS8.out hb (Nat.le_refl _))
    have HLs := Lib.hid (HLs.out.below hb (Nat.le_refl _))
    have HHs := Lib.hid (HHs.out.below hb (Nat.le_refl _))
    have HA17 := Lib.hid (chain1 HA13.out hb)
    clear hX hl hh HI3 HI4 HBt HTm HsS
    clear hb HA13
    go_wp2_with fail
    have HI := Lib.hid (fun W => int_q (1) (by decide) (by decide) W)
    refine (HI.out _).mono ?_
    rintro e W18 ⟨va, rfl, hva, hb⟩
    have HLs := Lib.hid (HLs.out.below hb (Nat.le_refl _))
    have HHs := Lib.hid (HHs.out.below hb (Nat.le_refl _))
    have HLt := Lib.hid (HLt.out.below hb (Nat.le_refl _))
    have HHt := Lib.hid (HHt.out.below hb (Nat.le_refl _))
    have HS8 := Lib.hid (Box8.below HS8.out hb (Nat.le_refl _))
    have HT8 := Lib.hid (Box8.below HT8.out hb (Nat.le_refl _))
    have HA18 := Lib.hid (chain1 HA17.out hb)
    have HVA := Lib.hid hva
    obtain ⟨_, _, _, _, rfl⟩ := hva.form
    clear hva
    clear hb HA17
    clear HI
    go_wp2_with fail
    have HI := Lib.hid (fun W => int_q (-2) (by decide) (by decide) W)
    refine (HI.out _).mono ?_
    rintro e W19 ⟨vb, rfl, hvb, hb⟩
    have HLs := Lib.hid (HLs.out.below hb (Nat.le_refl _))
    have HHs := Lib.hid (HHs.out.below hb (Nat.le_refl _))
    have HLt := Lib.hid (HLt.out.below hb (Nat.le_refl _))
    have HHt := Lib.hid (HHt.out.below hb (Nat.le_refl _))
    have HVA := Lib.hid (HVA.out.below hb (Nat.le_refl _))
    have HS8 := Lib.hid (Box8.below HS8.out hb (Nat.le_refl _))
    have HT8 := Lib.hid (Box8.below HT8.out hb (Nat.le_refl _))
    have HA19 := Lib.hid (chain1 HA18.out hb)
    have HVB := Lib.hid hvb
    obtain ⟨_, _, _, _, rfl⟩ := hvb.form
    clear hvb
    clear hb HA18
    clear HI
    go_wp2_with fail
    have HI := Lib.hid (fun W => int_q (0) (by decide) (by decide) W)
    refine (HI.out _).mono ?_
    rintro e W20 ⟨vc, rfl, hvc, hb⟩
    have HLs := Lib.hid (HLs.out.below hb (Nat.le_refl _))
    have HHs := Lib.hid (HHs.out.below hb (Nat.le_refl _))
    have HLt := Lib.hid (HLt.out.below hb (Nat.le_refl _))
    have HHt := Lib.hid (HHt.out.below hb (Nat.le_refl _))
    have HVA := Lib.hid (HVA.out.below hb (Nat.le_refl _))
    have HVB := Lib.hid (HVB.out.below hb (Nat.le_refl _))
    have HS8 := Lib.hid (Box8.below HS8.out hb (Nat.le_refl _))
    have HT8 := Lib.hid (Box8.below HT8.out hb (Nat.le_refl _))
    have HA20 := Lib.hid (chain1 HA19.out hb)
    have HVC := Lib.hid hvc
    obtain ⟨_, _, _, _, rfl⟩ := hvc.form
    clear hvc
    clear hb HA19
    clear HI
    go_wp2_with fail
    have HI := Lib.hid (fun W => int_q (0) (by decide) (by decide) W)
    refine (HI.out _).mono ?_
    rintro e W21 ⟨vd, rfl, hvd, hb⟩
    have HLs := Lib.hid (HLs.out.below hb (Nat.le_refl _))
    have HHs := Lib.hid (HHs.out.below hb (Nat.le_refl _))
    have HLt := Lib.hid (HLt.out.below hb (Nat.le_refl _))
    have HHt := Lib.hid (HHt.out.below hb (Nat.le_refl _))
    have HVA := Lib.hid (HVA.out.below hb (Nat.le_refl _))
    have HVB := Lib.hid (HVB.out.below hb (Nat.le_refl _))
    have HVC := Lib.hid (HVC.out.below hb (Nat.le_refl _))
    have HS8 := Lib.hid (Box8.below HS8.out hb (Nat.le_refl _))
    have HT8 := Lib.hid (Box8.below HT8.out hb (Nat.le_refl _))
    have HA21 := Lib.hid (chain1 HA20.out hb)
    have HVD := Lib.hid hvd
    obtain ⟨_, _, _, _, rfl⟩ := hvd.form
    clear hvd
    clear hb HA20
    clear HI
    go_wp2_with fail
    have HI := Lib.hid (fun W => int_q (3) (by decide) (by decide) W)
    refine (HI.out _).mono ?_
    rintro e W22 ⟨ve, rfl, hve, hb⟩
    have HLs := Lib.hid (HLs.out.below hb (Nat.le_refl _))
    have HHs := Lib.hid (HHs.out.below hb (Nat.le_refl _))
    have HLt := Lib.hid (HLt.out.below hb (Nat.le_refl _))
    have HHt := Lib.hid (HHt.out.below hb (Nat.le_refl _))
    have HVA := Lib.hid (HVA.out.below hb (Nat.le_refl _))
    have HVB := Lib.hid (HVB.out.below hb (Nat.le_refl _))
    have HVC := Lib.hid (HVC.out.below hb (Nat.le_refl _))
    have HVD := Lib.hid (HVD.out.below hb (Nat.le_refl _))
    have HS8 := Lib.hid (Box8.below HS8.out hb (Nat.le_refl _))
    have HT8 := Lib.hid (Box8.below HT8.out hb (Nat.le_refl _))
    have HA22 := Lib.hid (chain1 HA21.out hb)
    have HVE := Lib.hid hve
    obtain ⟨_, _, _, _, rfl⟩ := hve.form
    clear hve
    clear hb HA21
    clear HI
    go_wp2_with fail
    have HBt := Lib.hid (fun v1 v2 W h1 h2 => between_any v1 v2 (qi (0)) (qi (3)) 1 W h1 h2 (siz_qi _ (by decide) (by decide)) (siz_qi _ (by decide) (by decide)) (by decide))
    rw [kv.1, kv.2] at HBt
    refine (HBt.out _ _ _ HVD.out HVE.out).mono ?_
    rintro e W23 ⟨vr, rfl, hvr, hb⟩
    have HLs := Lib.hid (HLs.out.below hb (Nat.le_refl _))
    have HHs := Lib.hid (HHs.out.below hb (Nat.le_refl _))
    have HLt := Lib.hid (HLt.out.below hb (Nat.le_refl _))
    have HHt := Lib.hid (HHt.out.below hb (Nat.le_refl _))
    have HVA := Lib.hid (HVA.out.below hb (Nat.le_refl _))
    have HVB := Lib.hid (HVB.out.below hb (Nat.le_refl _))
    have HVC := Lib.hid (HVC.out.below hb (Nat.le_refl _))
    have HS8 := Lib.hid (Box8.below HS8.out hb (Nat.le_refl _))
    have HT8 := Lib.hid (Box8.below HT8.out hb (Nat.le_refl _))
    have HA23 := Lib.hid (chain1 HA22.out hb)
    have HVR := Lib.hid hvr
    clear hb HA22
    clear HBt HVD HVE
    have HQu := Lib.hid (fun v1 v2 v3 v4 W h1 h2 h3 h4 hG => quadratic_any v1 v2 v3 v4 (qi 1) (qi (-2)) (qi 0) (qi 0) (qi 3) 1 W h1 h2 h3 h4 (siz_qi _ (by decide) (by decide)) (siz_qi _ (by decide) (by decide)) (siz_qi _ (by decide) (by decide)) (siz_qi _ (by decide) (by decide)) (siz_qi _ (by decide) (by decide)) (by decide) hG)
    rw [ku.1, ku.2] at HQu
    obtain ⟨r1, ra, rb, rp, r2, rc, rd, rq, rfl, hl, hh⟩ := hvr
    have hvr := HVR.out
    go_wp2_with fail
    refine (HQu.out _ _ _ _ _ HVA.out HVB.out HVC.out HVR.out (HG.out _ HA23.out)).mono ?_
    rintro e W24 ⟨vq, rfl, hvq, hb⟩
    have HLs := Lib.hid (HLs.out.below hb (Nat.le_refl _))
    have HHs := Lib.hid (HHs.out.below hb (Nat.le_refl _))
    have HLt := Lib.hid (HLt.out.below hb (Nat.le_refl _))
    have HHt := Lib.hid (HHt.out.below hb (Nat.le_refl _))
    have HS8 := Lib.hid (Box8.below HS8.out hb (Nat.le_refl _))
    have HT8 := Lib.hid (Box8.below HT8.out hb (Nat.le_refl _))
    have HA24 := Lib.hid (chain1 HA23.out hb)
    have HVQ := Lib.hid hvq
    clear hb HA23
    clear HQu HVA HVB HVC HVR hl hh hvr
    obtain ⟨q1, qa, qb, qp, q2, qc, qd, qq, rfl, hl, hh⟩ := hvq
    have ltHS8 := Box8.lt HS8.out
    have ltHT8 := Box8.lt HT8.out
    go_upto_region 8 with fail
    obtain ⟨W25, hW, hb, hX⟩ := newbox8 W24 (.bool q1) (u qa) (u qb) (.pointer qp) (.bool q2) (u qc) (u qd) (.pointer qq)
    rw [hW]
    clear hW
    clear ltHS8
    clear ltHT8
    have HQ8 := Lib.hid hX
    have HLq := Lib.hid (hl.below hb (Nat.le_refl _))
    have HHq := Lib.hid (hh.below hb (Nat.le_refl _))
    have HLs := Lib.hid (HLs.out.below hb (Nat.le_refl _))
    have HHs := Lib.hid (HHs.out.below hb (Nat.le_refl _))
    have HLt := Lib.hid (HLt.out.below hb (Nat.le_refl _))
    have HHt := Lib.hid (HHt.out.below hb (Nat.le_refl _))
    have HS8 := Lib.hid (Box8.below HS8.out hb (Nat.le_refl _))
    have HT8 := Lib.hid (Box8.below HT8.out hb (Nat.le_refl _))
    have HA25 := Lib.hid (chain1 HA24.out hb)
    clear hX hl hh HVQ
    clear hb HA24
    generalize W24.heap.size = n7 at *
    (obtain ⟨c0, c1, c2, c3, c4, c5, c6, c7⟩ := HT8.out.cells)
    go_wp2_with fail
    clear c0 c1 c2 c3 c4 c5 c6 c7
    have HTx := Lib.hid (fun v W (hv : IsQ W v (qi (-4))) => (kt4 ▸ text_q v _ 1 W hv (siz_qi _ (by decide) (by decide)) (by decide) : Calls Tryz.prog 18 #[v] W (StrNew W _)))
    refine (HTx.out _ _ HLt.out).mono ?_
    rintro e W26 ⟨rfl, hb⟩
    have HLs := Lib.hid (HLs.out.below hb (Nat.le_refl _))
    have HHs := Lib.hid (HHs.out.below hb (Nat.le_refl _))
    have HLt := Lib.hid (HLt.out.below hb (Nat.le_refl _))
    have HHt := Lib.hid (HHt.out.below hb (Nat.le_refl _))
    have HLq := Lib.hid (HLq.out.below hb (Nat.le_refl _))
    have HHq := Lib.hid (HHq.out.below hb (Nat.le_refl _))
    have HS8 := Lib.hid (Box8.below HS8.out hb (Nat.le_refl _))
    have HT8 := Lib.hid (Box8.below HT8.out hb (Nat.le_refl _))
    have HQ8 := Lib.hid (Box8.below HQ8.out hb (Nat.le_refl _))
    have HA26 := Lib.hid (chain1 HA25.out hb)
    clear hb HA25
    clear HTx
    (obtain ⟨c0, c1, c2, c3, c4, c5, c6, c7⟩ := HT8.out.cells)
    go_wp2_with fail
    clear c0 c1 c2 c3 c4 c5 c6 c7
    have HTx := Lib.hid (fun v W (hv : IsQ W v (qi (8))) => (kt8 ▸ text_q v _ 1 W hv (siz_qi _ (by decide) (by decide)) (by decide) : Calls Tryz.prog 18 #[v] W (StrNew W _)))
    refine (HTx.out _ _ HHt.out).mono ?_
    rintro e W27 ⟨rfl, hb⟩
    have HLs := Lib.hid (HLs.out.below hb (Nat.le_refl _))
    have HHs := Lib.hid (HHs.out.below hb (Nat.le_refl _))
    have HLt := Lib.hid (HLt.out.below hb (Nat.le_refl _))
    have HHt := Lib.hid (HHt.out.below hb (Nat.le_refl _))
    have HLq := Lib.hid (HLq.out.below hb (Nat.le_refl _))
    have HHq := Lib.hid (HHq.out.below hb (Nat.le_refl _))
    have HS8 := Lib.hid (Box8.below HS8.out hb (Nat.le_refl _))
    have HT8 := Lib.hid (Box8.below HT8.out hb (Nat.le_refl _))
    have HQ8 := Lib.hid (Box8.below HQ8.out hb (Nat.le_refl _))
    have HA27 := Lib.hid (chain1 HA26.out hb)
    clear hb HA26
    clear HTx
    (obtain ⟨c0, c1, c2, c3, c4, c5, c6, c7⟩ := HS8.out.cells)
    go_wp2_with fail
    clear c0 c1 c2 c3 c4 c5 c6 c7
    have HSq := Lib.hid (fun v W h hG => square_any v (qi (-1)) (qi 2) 1 W h (siz_qi _ (by decide) (by decide)) (siz_qi _ (by decide) (by decide)) (by decide) hG)
    rw [kq] at HSq
    have HsS := Lib.hid (show IsS W27 (.agg #[.bool s1, u sa, u sb, .pointer sp, .bool s2, u sc, u sd, .pointer sq]) (qi (-1)) (qi 2) from ⟨_, _, _, _, _, _, _, _, rfl, HLs.out, HHs.out⟩)
    refine (HSq.out _ _ HsS.out (HG.out _ HA27.out)).mono ?_
    rintro e W28 ⟨vy, rfl, hvy, hb⟩
    have HLq := Lib.hid (HLq.out.below hb (Nat.le_refl _))
    have HHq := Lib.hid (HHq.out.below hb (Nat.le_refl _))
    have HQ8 := Lib.hid (Box8.below HQ8.out hb (Nat.le_refl _))
    have HA28 := Lib.hid (chain1 HA27.out hb)
    have HVY := Lib.hid hvy
    clear hb HA27
    obtain ⟨y1, ya, yb, yp, y2, yc, yd, yq, rfl, hl, hh⟩ := hvy
    have HLy := Lib.hid hl
    clear hl hh HVY HSq HsS
    have hfd := field_low y1 y2 ya yb yc yd yp yq W28
    go_wp2_with fail
    clear hfd
    have HTx := Lib.hid (fun v W (hv : IsQ W v (qi (0))) => (kt0 ▸ text_q v _ 1 W hv (siz_qi _ (by decide) (by decide)) (by decide) : Calls Tryz.prog 18 #[v] W (StrNew W _)))
    refine (HTx.out _ _ HLy.out).mono ?_
    rintro e W29 ⟨rfl, hb⟩
    have HLq := Lib.hid (HLq.out.below hb (Nat.le_refl _))
    have HHq := Lib.hid (HHq.out.below hb (Nat.le_refl _))
    have HQ8 := Lib.hid (Box8.below HQ8.out hb (Nat.le_refl _))
    have HA29 := Lib.hid (chain1 HA28.out hb)
    clear hb HA28
    clear HTx
    (obtain ⟨c0, c1, c2, c3, c4, c5, c6, c7⟩ := HQ8.out.cells)
    go_wp2_with fail
    clear c0 c1 c2 c3 c4 c5 c6 c7
    have HTx := Lib.hid (fun v W (hv : IsQ W v (qi (-1))) => (kt1 ▸ text_q v _ 1 W hv (siz_qi _ (by decide) (by decide)) (by decide) : Calls Tryz.prog 18 #[v] W (StrNew W _)))
    refine (HTx.out _ _ HLq.out).mono ?_
    rintro e W30 ⟨rfl, hb⟩
    have HLq := Lib.hid (HLq.out.below hb (Nat.le_refl _))
    have HHq := Lib.hid (HHq.out.below hb (Nat.le_refl _))
    have HQ8 := Lib.hid (Box8.below HQ8.out hb (Nat.le_refl _))
    have HA30 := Lib.hid (chain1 HA29.out hb)
    clear hb HA29
    clear HTx
    (obtain ⟨c0, c1, c2, c3, c4, c5, c6, c7⟩ := HQ8.out.cells)
    go_wp2_with fail
    clear c0 c1 c2 c3 c4 c5 c6 c7
    have HTx := Lib.hid (fun v W (hv : IsQ W v (qi (3))) => (kt3 ▸ text_q v _ 1 W hv (siz_qi _ (by decide) (by decide)) (by decide) : Calls Tryz.prog 18 #[v] W (StrNew W _)))
    refine (HTx.out _ _ HHq.out).mono ?_
    rintro e W31 ⟨rfl, hb⟩
    have HLq := Lib.hid (HLq.out.below hb (Nat.le_refl _))
    have HHq := Lib.hid (HHq.out.below hb (Nat.le_refl _))
    have HQ8 := Lib.hid (Box8.below HQ8.out hb (Nat.le_refl _))
    have HA31 := Lib.hid (chain1 HA30.out hb)
    clear hb HA30
    clear HTx
    go_wp2_with fail
    exact bodyPost_ret (v := .bool true) (by simp [results, Tryz.results14, go_sem]) rfl ⟨rfl, HA31.out⟩

end Go.Proofs.YtnolcmoecodeaaaGreatDoor

/- number: the number of a text. -/
namespace Go.Proofs.YtnolcmoecodeaaaGreatDoor
open Go Go.RowKit Go.Proofs Lim

theorem number_any (l : List UInt8) (w : World) (hl : l.length ≤ 100000) (hG : Gr w) : Calls Tryz.prog 76 #[str l] w (QNew w (readQ l).1) := by
  have HR := Lib.hid (fun W (hW : Below w.heap.size w W) => read_any l W hl (hG.below hW hG.size))
  clear hG hl
  go_enter Tryz.func76, Tryz.ntmps76
  go_wp2_with fail
  obtain ⟨W0, hW0, hb0, hz, hs⟩ := boxz w; rw [← hW0]; clear hW0; have HZ := Lib.hid hz; have HW0 := Lib.hid hb0; have hb0 := Below.refl W0.heap.size W0; clear hz
  refine (HR.out _ HW0.out).mono ?_
  rintro e W1 ⟨v, rfl, hv, hbb⟩
  generalize (readQ l).1 = r at *
  generalize (readQ l).2 = ec at *
  obtain ⟨s1, a1, b1, p1, rfl⟩ := hv.form
  have HV := Lib.hid hv
  have HB := Lib.hid hbb
  clear hv hbb hb0
  go_upto_region 2 with fail
  obtain ⟨W2, hW, hb, ⟨f0, f1, f2, f3⟩⟩ := box1 W1 (.bool s1) (u a1) (u b1) (.pointer p1); rw [← hW]; clear hW
  have HB2 := Lib.hid (chain1 HB.out hb)
  have hn : ¬ W1.heap.size = w.heap.size := by
    have h1 := (Array.getElem?_eq_some_iff.1 HZ.out).1
    have h2 := HB.out.size
    omega
  have hn' : ¬ w.heap.size = W1.heap.size := fun h => hn h.symm
  have HFin := Lib.hid (QNew.stored (a0 := .bool s1) (a1 := u a1) (a2 := u b1) (a3 := .pointer p1) (HZ.out.below HB2.out (Nat.le_refl _)) (HV.out.below hb (Nat.le_refl _)) (chain1 HW0.out HB2.out) (Nat.le_refl _))
  (have hz := HZ.out.below HB2.out (Nat.le_refl _); have zf := hz.frozen; obtain ⟨z0, z1, z2, z3⟩ := hz.cells; have zf0 := zf 0; have zf1 := zf 1; have zf2 := zf 2; have zf3 := zf 3; clear zf hz)
  clear hb
  go_wp2_with fail
  refine bodyPost_ret (v := .agg #[.bool s1, u a1, u b1, .pointer p1]) (by simp [results, Tryz.results76, go_sem, z0, z1, z2, z3]) rfl ?_
  exact HFin.out

end Go.Proofs.YtnolcmoecodeaaaGreatDoor

/- equal: two numbers are equal and have one text. -/
namespace Go.Proofs.YtnolcmoecodeaaaGreatDoor
open Go Go.RowKit Go.Proofs Lim

theorem cmpQ_self (r : Rat) : cmpQ r r = 0 := by
  unfold cmpQ
  rw [if_neg Rat.lt_irrefl, if_neg Rat.lt_irrefl]
theorem cmpQ_eq {r s : Rat} (h : cmpQ r s = 0) : r = s := by
  unfold cmpQ at h
  split at h
  · exact absurd h (by decide)
  · rename_i h1
    split at h
    · exact absurd h (by decide)
    · rename_i h2
      exact Rat.le_antisymm (Rat.not_lt.1 h2) (Rat.not_lt.1 h1)

set_option maxHeartbeats 2000000 in
theorem equal_any (v1 v2 : Value) (r s : Rat) (k : Nat) (w : World) (h1 : IsQ w v1 r) (h2 : IsQ w v2 s) (z1 : Siz r k) (z2 : Siz s k) (hk : (k : Int) ≤ 1073741824) :
    Calls Tryz.prog 77 #[v1, v2] w (Val w (.bool (decide (r = s)))) := by
  have HC := Lib.hid (fun W (hW : Below w.heap.size w W) => cmp_q v1 v2 r s k W (h1.below hW (Nat.le_refl _)) (h2.below hW (Nat.le_refl _)) z1 z2 hk)
  obtain ⟨s1, x1, y1, p1, rfl⟩ := h1.form
  obtain ⟨s2, x2, y2, p2, rfl⟩ := h2.form
  by_cases hrs : r = s
  · have HT1 := Lib.hid (fun W (hW : Below w.heap.size w W) => text_q _ r k W (h1.below hW (Nat.le_refl _)) z1 hk)
    have HT2 := Lib.hid (fun W (hW : Below w.heap.size w W) => text_q _ s k W (h2.below hW (Nat.le_refl _)) z2 hk)
    subst hrs
    rw [cmpQ_self] at HC
    rw [show decide (r = r) = true from decide_eq_true rfl]
    clear h1 h2 z1 z2 hk
    generalize qtext r = tx at *
    go_enter Tryz.func77, Tryz.ntmps77
    go_wp2_with fail
    obtain ⟨W0, hW0, hb0, ⟨f0, f1, f2, f3⟩, ⟨g0, g1, g2, g3⟩⟩ := box2 w (.bool s1) (u x1) (u y1) (.pointer p1) (.bool s2) (u x2) (u y2) (.pointer p2); rw [← hW0]; clear hW0
    have HW0 := Lib.hid hb0
    clear hb0
    have hb0 := Below.refl W0.heap.size W0
    go_region_held3 (fun w' => (w'.cell? ⟨w.heap.size, 0, none⟩ = some (.bool s1) ∧ w'.cell? ⟨w.heap.size, 1, none⟩ = some (u x1) ∧ w'.cell? ⟨w.heap.size, 2, none⟩ = some (u y1) ∧ w'.cell? ⟨w.heap.size, 3, none⟩ = some (.pointer p1)) ∧ (w'.cell? ⟨w.heap.size + 1, 0, none⟩ = some (.bool s2) ∧ w'.cell? ⟨w.heap.size + 1, 1, none⟩ = some (u x2) ∧ w'.cell? ⟨w.heap.size + 1, 2, none⟩ = some (u y2) ∧ w'.cell? ⟨w.heap.size + 1, 3, none⟩ = some (.pointer p2))) (go_keep) (first | ((with_reducible refine (HC.out _ HW0.out.drew).mono ?_); rintro e W1 ⟨rfl, hb⟩; (obtain ⟨_, _, _, _⟩ := boxq (b := w.heap.size) hb (by assumption) (by assumption) (by assumption) (by assumption); obtain ⟨_, _, _, _⟩ := boxq (b := w.heap.size + 1) hb (by assumption) (by assumption) (by assumption) (by assumption)); have hb1 := chain hb0 hb; clear hb) | ((with_reducible refine (HT1.out _ (chain1 HW0.out hb1)).mono ?_); rintro e W2 ⟨rfl, hb⟩; (obtain ⟨_, _, _, _⟩ := boxq (b := w.heap.size) hb (by assumption) (by assumption) (by assumption) (by assumption); obtain ⟨_, _, _, _⟩ := boxq (b := w.heap.size + 1) hb (by assumption) (by assumption) (by assumption) (by assumption)); have hb1 := chain1 hb1 hb; clear hb) | ((with_reducible refine (HT2.out _ (chain1 HW0.out hb1)).mono ?_); rintro e W3 ⟨rfl, hb⟩; (obtain ⟨_, _, _, _⟩ := boxq (b := w.heap.size) hb (by assumption) (by assumption) (by assumption) (by assumption); obtain ⟨_, _, _, _⟩ := boxq (b := w.heap.size + 1) hb (by assumption) (by assumption) (by assumption) (by assumption)); have hb1 := chain1 hb1 hb; clear hb))
    go_wp2_with fail
    exact bodyPost_ret (v := .bool true) (by simp [results, Tryz.results77, go_sem]) rfl ⟨rfl, chain1 HW0.out hb1⟩
  · have hc : cmpQ r s = -1 ∨ cmpQ r s = 1 := by
      have h0 : ¬ cmpQ r s = 0 := fun h => hrs (cmpQ_eq h)
      unfold cmpQ at h0 ⊢
      split
      · exact Or.inl rfl
      · rename_i h1
        rw [if_neg h1] at h0
        split
        · exact Or.inr rfl
        · rename_i h2
          rw [if_neg h2] at h0
          exact absurd rfl h0
    rw [show decide (r = s) = false from decide_eq_false hrs]
    clear h1 h2 z1 z2 hk hrs
    rcases hc with hc | hc
    · rw [hc] at HC
      clear hc
      go_enter Tryz.func77, Tryz.ntmps77
      go_wp2_with fail
      obtain ⟨W0, hW0, hb0, ⟨f0, f1, f2, f3⟩, ⟨g0, g1, g2, g3⟩⟩ := box2 w (.bool s1) (u x1) (u y1) (.pointer p1) (.bool s2) (u x2) (u y2) (.pointer p2); rw [← hW0]; clear hW0
      have HW0 := Lib.hid hb0
      clear hb0
      have hb0 := Below.refl W0.heap.size W0
      go_region_with (refine (HC.out _ HW0.out.drew).mono ?_; rintro e W1 ⟨rfl, hb⟩; (obtain ⟨_, _, _, _⟩ := boxq (b := w.heap.size) hb (by assumption) (by assumption) (by assumption) (by assumption); obtain ⟨_, _, _, _⟩ := boxq (b := w.heap.size + 1) hb (by assumption) (by assumption) (by assumption) (by assumption)); have hb1 := chain hb0 hb; clear hb)
      all_goals go_wp2_with fail
      all_goals exact bodyPost_ret (v := .bool false) (by simp [results, Tryz.results77, go_sem]) rfl ⟨rfl, chain1 HW0.out hb1⟩
    · rw [hc] at HC
      clear hc
      go_enter Tryz.func77, Tryz.ntmps77
      go_wp2_with fail
      obtain ⟨W0, hW0, hb0, ⟨f0, f1, f2, f3⟩, ⟨g0, g1, g2, g3⟩⟩ := box2 w (.bool s1) (u x1) (u y1) (.pointer p1) (.bool s2) (u x2) (u y2) (.pointer p2); rw [← hW0]; clear hW0
      have HW0 := Lib.hid hb0
      clear hb0
      have hb0 := Below.refl W0.heap.size W0
      go_region_with (refine (HC.out _ HW0.out.drew).mono ?_; rintro e W1 ⟨rfl, hb⟩; (obtain ⟨_, _, _, _⟩ := boxq (b := w.heap.size) hb (by assumption) (by assumption) (by assumption) (by assumption); obtain ⟨_, _, _, _⟩ := boxq (b := w.heap.size + 1) hb (by assumption) (by assumption) (by assumption) (by assumption)); have hb1 := chain hb0 hb; clear hb)
      all_goals go_wp2_with fail
      all_goals exact bodyPost_ret (v := .bool false) (by simp [results, Tryz.results77, go_sem]) rfl ⟨rfl, chain1 HW0.out hb1⟩

end Go.Proofs.YtnolcmoecodeaaaGreatDoor

/- long: one of some texts is longer than 120 bytes. -/
namespace Go.Proofs.YtnolcmoecodeaaaGreatDoor
open Go Go.RowKit Go.Proofs Lim

theorem any_take_succ {ls : List (List UInt8)} {k : Nat} (p : List UInt8 → Bool) (h : (ls.take k).any p = false) (hk : p (ls[k]?.getD []) = false) : (ls.take (k + 1)).any p = false := by
  rw [List.take_add_one, List.any_append, h, Bool.false_or]
  cases hx : ls[k]? with
  | none => rfl
  | some x => rw [hx] at hk; simpa using hk

theorem any_at {ls : List (List UInt8)} {k : Nat} (p : List UInt8 → Bool) (hk : k < ls.length) (h : p (ls[k]?.getD []) = true) : ls.any p = true := by
  rw [List.getElem?_eq_getElem hk] at h
  exact List.any_eq_true.2 ⟨ls[k], List.getElem_mem hk, h⟩

theorem long_any (b : Nat) (ls : List (List UInt8)) (w : World) (hc : ∀ i, i < ls.length → w.cell? ⟨b, i, none⟩ = some (str (ls[i]?.getD []))) (hn : (ls.length : Int) ≤ 1000) :
    Calls Tryz.prog 27 #[.slice (some ⟨b, 0, none⟩) ls.length ls.length] w (fun e w' => e = .returned (.bool (ls.any (fun x => decide (120 < x.length)))) ∧ w' = w) := by
  have HC := Lib.hid hc
  clear hc
  generalize hR : ls.any (fun x => decide (120 < x.length)) = R
  have HR := Lib.hid hR
  clear hR
  go_enter Tryz.func27, Tryz.ntmps27
  go_wp2_with fail
  go_loop [3] (fun i => ∃ k, k ≤ ls.length ∧ i = .int .i64 (k : Int) ∧ Hid ((ls.take k).any (fun x => decide (120 < x.length)) = false)) (fun i => ls.length - (intOf i).toNat)
  case atStart => exact ⟨0, Nat.zero_le _, rfl, Lib.hid rfl⟩
  case round =>
    obtain ⟨k, hk, rfl, hany⟩ := hrel
    by_cases hkn : k < ls.length
    · have hcell := HC.out k hkn
      have hk0 : (0 : Int) ≤ (k : Int) := by omega
      have hk1 : (k : Int) < (ls.length : Int) := by omega
      have hsz : (⟨(ls[k]?.getD []).toArray⟩ : ByteArray).size = (ls[k]?.getD []).length := by simp [ByteArray.size]
      have hst := any_take_succ (ls := ls) (k := k) (fun x => decide (120 < x.length)) hany.out
      have HSt := Lib.hid hst
      have hat := any_at (ls := ls) (k := k) (fun x => decide (120 < x.length)) hkn
      have HAt := Lib.hid hat
      clear hst hat
      generalize ls[k]?.getD [] = x at *
      by_cases hx : 120 < x.length
      · have hxi : (120 : Int) < (x.length : Int) := by omega
        have hr : R = true := by rw [← HR.out]; exact HAt.out (by simpa using hx)
        clear HAt HSt HR
        subst hr
        go_wp2_with fail
        go_ret
        exact ⟨rfl, rfl⟩
      · have hxi : ¬ (120 : Int) < (x.length : Int) := by omega
        have hw : IntKind.i64.wrap ((k : Int) + 1) = (k : Int) + 1 := by rw [IntKind.wrap_i64]; omega
        have HN := Lib.hid (HSt.out (by simpa using hx))
        clear HSt HAt
        go_wp2_with fail
        go_round
        case rel => exact ⟨k + 1, by omega, by simp, HN⟩
        case measure => simp [intOf]; omega
    · obtain rfl : k = ls.length := by omega
      have hr : R = false := by
        have := hany.out
        rw [List.take_length] at this
        rw [← HR.out, this]
      clear hany HR
      subst hr
      go_wp2_with fail
      go_ret
      exact ⟨rfl, rfl⟩

end Go.Proofs.YtnolcmoecodeaaaGreatDoor

/- The calls on numbers, at one size, for walks of laws. -/
namespace Go.Proofs.YtnolcmoecodeaaaGreatDoor
open Go Go.RowKit Go.Proofs Lim

theorem Below.drewn (W : World) : Below W.heap.size W W.drew := (Below.refl _ W).drew
theorem IsQ.drewn {W : World} {v : Value} {r : Rat} (h : IsQ W v r) : IsQ W.drew v r := h.below (Below.drewn W) (Nat.le_refl _)
theorem IsS.drewn {W : World} {v : Value} {l g : Rat} (h : IsS W v l g) : IsS W.drew v l g := h.below (Below.drewn W) (Nat.le_refl _)

/-- A size that is enough for what a law reckons. -/
def Sz (r : Rat) : Prop := Siz r 1000
theorem Siz.sz {r : Rat} {k : Nat} (h : Siz r k) (hk : k ≤ 1000) : Sz r := h.le hk

theorem o_plus (w : World) (hG : Gr w) (v1 v2 : Value) (r s : Rat) (W : World) (hW : Below w.heap.size w W) (h1 : IsQ W v1 r) (h2 : IsQ W v2 s) (z1 : Sz r) (z2 : Sz s) : Calls Tryz.prog 29 #[v1, v2] W (QNew W (r + s)) :=
  plus_q v1 v2 r s 1000 W h1 h2 z1 z2 (by decide) (hG.below hW hG.size)
theorem o_minus (w : World) (hG : Gr w) (v1 v2 : Value) (r s : Rat) (W : World) (hW : Below w.heap.size w W) (h1 : IsQ W v1 r) (h2 : IsQ W v2 s) (z1 : Sz r) (z2 : Sz s) : Calls Tryz.prog 31 #[v1, v2] W (QNew W (r - s)) :=
  minus_q v1 v2 r s 1000 W h1 h2 z1 z2 (by decide) (hG.below hW hG.size)
theorem o_times (w : World) (hG : Gr w) (v1 v2 : Value) (r s : Rat) (W : World) (hW : Below w.heap.size w W) (h1 : IsQ W v1 r) (h2 : IsQ W v2 s) (z1 : Sz r) (z2 : Sz s) : Calls Tryz.prog 33 #[v1, v2] W (QNew W (r * s)) :=
  times_q v1 v2 r s 1000 W h1 h2 z1 z2 (by decide) (hG.below hW hG.size)
theorem o_over (w : World) (hG : Gr w) (v1 v2 : Value) (r s : Rat) (W : World) (h0 : s.num ≠ 0) (hW : Below w.heap.size w W) (h1 : IsQ W v1 r) (h2 : IsQ W v2 s) (z1 : Sz r) (z2 : Sz s) : Calls Tryz.prog 38 #[v1, v2] W (OverQ W (r / s)) :=
  over_q v1 v2 r s 1000 W h1 h2 h0 z1 z2 (by decide) (hG.below hW hG.size)
theorem o_floor (w : World) (hG : Gr w) (v : Value) (r : Rat) (W : World) (hW : Below w.heap.size w W) (h1 : IsQ W v r) (z1 : Sz r) : Calls Tryz.prog 45 #[v] W (QNew W ((r.floor : Int) : Rat)) :=
  floor_q v r 1000 W h1 z1 (by decide) (by decide) (hG.below hW hG.size)
theorem o_ceil (w : World) (hG : Gr w) (v : Value) (r : Rat) (W : World) (hW : Below w.heap.size w W) (h1 : IsQ W v r) (z1 : Sz r) : Calls Tryz.prog 47 #[v] W (QNew W ((r.ceil : Int) : Rat)) :=
  ceil_q v r 1000 W h1 z1 (by decide) (by decide) (hG.below hW hG.size)
theorem o_known (w : World) (hG : Gr w) (W : World) (hW : Below w.heap.size w W) : Calls Tryz.prog 14 #[] W (Val W (.bool true)) := known_any W (hG.below hW hG.size)
theorem o_number (w : World) (hG : Gr w) (l : List UInt8) (W : World) (hl : l.length ≤ 100000) (hW : Below w.heap.size w W) : Calls Tryz.prog 76 #[str l] W (QNew W (readQ l).1) := number_any l W hl (hG.below hW hG.size)

theorem o_neg (v : Value) (r : Rat) (W : World) (h1 : IsQ W v r) : Calls Tryz.prog 41 #[v] W (QNew W (-r)) := neg_q v r W h1
theorem o_one (W : World) : Calls Tryz.prog 19 #[.int .i64 1] W (QNew W 1) := int_q 1 (by decide) (by decide) W
theorem o_eq (v1 v2 : Value) (r : Rat) (W : World) (h1 : IsQ W v1 r) (h2 : IsQ W v2 r) (z1 : Sz r) : Calls Tryz.prog 77 #[v1, v2] W (Val W (.bool true)) := by
  have := equal_any v1 v2 r r 1000 W h1 h2 z1 z1 (by decide)
  rwa [show decide (r = r) = true from decide_eq_true rfl] at this
theorem o_eqs (v1 v2 : Value) (r s : Rat) (W : World) (h1 : IsQ W v1 r) (h2 : IsQ W v2 s) (z1 : Sz r) (z2 : Sz s) : Calls Tryz.prog 77 #[v1, v2] W (Val W (.bool (decide (r = s)))) :=
  equal_any v1 v2 r s 1000 W h1 h2 z1 z2 (by decide)
theorem o_sign (v : Value) (r : Rat) (W : World) (h1 : IsQ W v r) : Calls Tryz.prog 23 #[v] W (Val W (.int .i64 (sign r))) := sign_q v r W h1
theorem o_sign0 (v : Value) (W : World) (h1 : IsQ W v 0) : Calls Tryz.prog 23 #[v] W (Val W (.int .i64 0)) := sign_q v 0 W h1
theorem o_cmp (v1 v2 : Value) (r s : Rat) (W : World) (h1 : IsQ W v1 r) (h2 : IsQ W v2 s) (z1 : Sz r) (z2 : Sz s) : Calls Tryz.prog 35 #[v1, v2] W (Val W (.int .i64 (cmpQ r s))) :=
  cmp_q v1 v2 r s 1000 W h1 h2 z1 z2 (by decide)

/-- long, as a variadic call lays its texts. -/
theorem o_long (ls : List (List UInt8)) (cs : Array Value) (n : Nat) (w : World) (hc : cs = (ls.map str).toArray) (hn : n = ls.length) (hl : (ls.length : Int) ≤ 1000) :
    Calls Tryz.prog 27 #[.slice (some ⟨w.heap.size, 0, none⟩) n n] (w.alloc (.cells cs 9)) (fun e w' => e = .returned (.bool (ls.any (fun x => decide (120 < x.length)))) ∧ Below w.heap.size w w') := by
  subst hc hn
  refine (long_any w.heap.size ls _ (fun i hi => ?_) hl).mono fun e w' ⟨h1, h2⟩ => ⟨h1, h2 ▸ below1 w _⟩
  have h : (w.alloc (.cells (ls.map str).toArray 9)).heap[w.heap.size]? = some (.cells (ls.map str).toArray 9) := by
    show (w.heap.push _)[w.heap.size]? = _
    simp
  unfold World.cell?
  rw [h]
  simp [List.getElem?_map, hi]

theorem long_lens {ls : List (List UInt8)} (h : (ls.any (fun x => decide (120 < x.length))) = false) : ∀ x ∈ ls, x.length ≤ 120 := by
  intro x hx
  have := List.any_eq_false.1 h x hx
  simpa using this

theorem siz_one : Siz (1 : Rat) 1 := siz_int 1 (by decide) (by decide)

/-- One more box of a number. -/
theorem nbox (W : World) (n : Nat) (hn : W.heap.size = n) (a0 a1 a2 a3 : Value) : ∃ W', W.alloc (.cells #[a0, a1, a2, a3] 26) = W' ∧ Below W.heap.size W W' ∧ Box W' n a0 a1 a2 a3 ∧ W'.heap.size = n + 1 := by
  subst hn
  exact ⟨_, rfl, below1 W _, heap_alloc_new W _, by show (W.heap.push _).size = _; simp⟩

theorem sz_read {l : List UInt8} (h : l.length ≤ 120) : Siz (readQ l).1 7 := Siz.read l h (by decide) (by decide)

end Go.Proofs.YtnolcmoecodeaaaGreatDoor

/- The mathematics of the order: comparisons, signs, integers below and above. -/
namespace Go.Proofs.YtnolcmoecodeaaaGreatDoor
open Go Go.RowKit Go.Proofs Lim

theorem sign_eq (r : Rat) : sign r = if r < 0 then -1 else if 0 < r then 1 else 0 := by
  unfold sign
  have h : r.num = 0 ↔ r = 0 := Rat.num_eq_zero
  have h2 : 0 ≤ r.num ↔ 0 ≤ r := Rat.num_nonneg
  have h3 : r.num < 0 ↔ r < 0 := by rw [← Int.not_le, h2, Rat.not_le]
  by_cases e : r = 0
  · subst e; decide +kernel
  · rw [if_neg (fun k => e (h.1 k))]
    by_cases k : r < 0
    · rw [if_pos (h3.2 k), if_pos k]
    · rw [if_neg (fun j => k (h3.1 j)), if_neg k, if_pos (by grind)]
theorem cmp_swap (x y : Rat) : cmpQ y x = -cmpQ x y := by unfold cmpQ; grind
theorem cmp_range (x y : Rat) : -1 ≤ cmpQ x y ∧ cmpQ x y ≤ 1 := by unfold cmpQ; grind
theorem sign_range (x : Rat) : -1 ≤ sign x ∧ sign x ≤ 1 := by rw [sign_eq]; grind
theorem sign_sub (x y : Rat) : sign (x - y) = cmpQ x y := by rw [sign_eq]; unfold cmpQ; grind
theorem cmp_add (x y z : Rat) : cmpQ (x + z) (y + z) = cmpQ x y := by unfold cmpQ; grind
theorem cmp_mul (x y z : Rat) : cmpQ (x * z) (y * z) = cmpQ x y * sign z := by
  rw [sign_eq]
  unfold cmpQ
  have key : ∀ {u v : Rat}, u < v → 0 < z → u * z < v * z := fun h k => Rat.mul_lt_mul_of_pos_right h k
  have keyn : ∀ {u v : Rat}, u < v → z < 0 → v * z < u * z := fun {u v} h k => by
    have := Rat.mul_lt_mul_of_pos_right h (show 0 < -z by grind)
    grind
  by_cases hz : z < 0
  · rw [if_pos hz]
    by_cases h1 : x < y
    · have := keyn h1 hz; grind
    · by_cases h2 : y < x
      · have := keyn h2 hz; grind
      · have : x = y := by grind
        subst this; grind
  · rw [if_neg hz]
    by_cases hz2 : 0 < z
    · rw [if_pos hz2]
      by_cases h1 : x < y
      · have := key h1 hz2; grind
      · by_cases h2 : y < x
        · have := key h2 hz2; grind
        · have : x = y := by grind
          subst this; grind
    · have : z = 0 := by grind
      subst this; grind
theorem cmp_le {x y : Rat} : cmpQ x y ≤ 0 ↔ x ≤ y := by unfold cmpQ; grind
theorem cmp_lt {x y : Rat} : cmpQ x y < 0 ↔ x < y := by unfold cmpQ; grind
theorem cmp_ge {x y : Rat} : 0 ≤ cmpQ x y ↔ y ≤ x := by unfold cmpQ; grind
theorem cmp_gt {x y : Rat} : 0 < cmpQ x y ↔ y < x := by unfold cmpQ; grind
theorem cmp_trans {x y z : Rat} (h1 : cmpQ x y ≤ 0) (h2 : cmpQ y z ≤ 0) : cmpQ x z ≤ 0 := by rw [cmp_le] at *; grind
theorem cmp_floor (x : Rat) : cmpQ ((x.floor : Int) : Rat) x ≤ 0 := cmp_le.2 (Rat.floor_le _)
theorem cmp_floor1 (x : Rat) : cmpQ x (((x.floor : Int) : Rat) + 1) < 0 := cmp_lt.2 (by
  have h := Rat.lt_floor_add_one x
  simpa using h)
theorem cmp_ceil (x : Rat) : 0 ≤ cmpQ ((x.ceil : Int) : Rat) x := cmp_ge.2 Rat.le_ceil
theorem cmp_ceil1 (x : Rat) : 0 < cmpQ x (((x.ceil : Int) : Rat) - 1) := cmp_gt.2 (by
  have h := Rat.ceil_lt (x := x)
  grind)
theorem num_over_den (x : Rat) : ((x.num : Int) : Rat) / (((x.den : Nat) : Int) : Rat) = x := by
  have := Rat.num_divInt_den x
  rw [Rat.divInt_eq_div] at this
  exact this
theorem whole_den {x : Rat} {i : Int} (h : ((i : Int) : Rat) = x) : x.den = 1 := by rw [← h]; rfl
theorem den_whole {x : Rat} (h : x.den = 1) : ((x.num : Int) : Rat) = x := by
  have := num_over_den x
  rw [h] at this
  have h1 : (((1 : Nat) : Int) : Rat) = 1 := rfl
  rw [h1] at this
  grind
theorem floor_whole (x : Rat) : decide (((x.floor : Int) : Rat) = x) = decide (x.den = 1) := by
  rw [decide_eq_decide]
  refine ⟨fun h => whole_den h, fun h => ?_⟩
  have e := den_whole h
  have : x.floor = x.num := by rw [← e]; simp [Rat.floor_intCast]
  rw [this, e]
theorem ceil_whole (x : Rat) : decide (((x.ceil : Int) : Rat) = x) = decide (x.den = 1) := by
  rw [decide_eq_decide]
  refine ⟨fun h => whole_den h, fun h => ?_⟩
  have e := den_whole h
  have : x.ceil = x.num := by
    rw [Rat.ceil_eq_neg_floor_neg]
    have e2 : -x = ((-x.num : Int) : Rat) := by rw [← e]; simp
    rw [e2, Rat.floor_intCast]
    simp
  rw [this, e]
theorem den_is_one (x : Rat) : decide ((((x.den : Nat) : Int) : Rat) = 1) = decide (x.den = 1) := by
  rw [decide_eq_decide]
  constructor
  · intro h
    have h2 : (((x.den : Nat) : Int) : Rat) = ((1 : Int) : Rat) := by simpa using h
    have := Rat.intCast_inj.1 h2
    omega
  · intro h
    rw [h]
    simp
theorem den_num (x : Rat) : ((((x.den : Nat) : Int) : Rat)).num ≠ 0 := by
  show ((x.den : Nat) : Int) ≠ 0
  have := x.den_nz
  omega
theorem sign_den (x : Rat) : sign (((x.den : Nat) : Int) : Rat) = 1 := by
  unfold sign
  have h : ((((x.den : Nat) : Int) : Rat)).num = ((x.den : Nat) : Int) := rfl
  have := x.den_pos
  rw [h, if_neg (by omega), if_neg (by omega)]
theorem floor_num (x : Rat) : (((((x.num : Int) : Rat)).floor : Int) : Rat) = ((x.num : Int) : Rat) := by rw [Rat.floor_intCast]

theorem o_cmp_is (r s : Rat) (c : Int) (h : cmpQ r s = c) (v1 v2 : Value) (W : World) (h1 : IsQ W v1 r) (h2 : IsQ W v2 s) (z1 : Sz r) (z2 : Sz s) : Calls Tryz.prog 35 #[v1, v2] W (Val W (.int .i64 c)) :=
  h ▸ o_cmp v1 v2 r s W h1 h2 z1 z2
theorem o_sign_is (r : Rat) (c : Int) (h : sign r = c) (v : Value) (W : World) (h1 : IsQ W v r) : Calls Tryz.prog 23 #[v] W (Val W (.int .i64 c)) :=
  h ▸ o_sign v r W h1
theorem o_eq_is (r s : Rat) (b : Bool) (h : decide (r = s) = b) (v1 v2 : Value) (W : World) (h1 : IsQ W v1 r) (h2 : IsQ W v2 s) (z1 : Sz r) (z2 : Sz s) : Calls Tryz.prog 77 #[v1, v2] W (Val W (.bool b)) :=
  h ▸ o_eqs v1 v2 r s W h1 h2 z1 z2
theorem Siz.floor {r : Rat} {k : Nat} (h : Siz r k) (hk : 1 ≤ k) : Siz ((r.floor : Int) : Rat) (k + 2) := by
  rw [floor_cut]
  have h1 := h.cut hk
  split
  · have := h1.sub (siz_int 1 (by decide) (by decide))
    rw [Rat.intCast_sub]
    exact this.le (by omega)
  · exact h1.le (by omega)
theorem Siz.ceil {r : Rat} {k : Nat} (h : Siz r k) (hk : 1 ≤ k) : Siz ((r.ceil : Int) : Rat) (k + 2) := by
  rw [ceil_cut]
  have h1 := h.cut hk
  split
  · have := h1.add (siz_int 1 (by decide) (by decide))
    rw [Rat.intCast_add]
    exact this.le (by omega)
  · exact h1.le (by omega)
theorem Siz.num {r : Rat} {k : Nat} (h : Siz r k) (hk : 1 ≤ k) : Siz ((r.num : Int) : Rat) k := by
  refine ⟨h.1, ?_⟩
  show 1 < B ^ k
  have : B ^ 1 ≤ B ^ k := Nat.pow_le_pow_right B_pos hk
  rw [Nat.pow_one] at this
  have h2 : 1 < B := by decide
  omega
theorem Siz.dens {r : Rat} {k : Nat} (h : Siz r k) (hk : 1 ≤ k) : Siz (((r.den : Nat) : Int) : Rat) k := by
  refine ⟨h.2, ?_⟩
  show 1 < B ^ k
  have : B ^ 1 ≤ B ^ k := Nat.pow_le_pow_right B_pos hk
  rw [Nat.pow_one] at this
  have h2 : 1 < B := by decide
  omega


theorem al {k : Nat} {w W : World} (h : Below k w W) {o : Obj} (hk : k ≤ W.heap.size) : Below k w (W.alloc o) := h.alloc hk o
theorem al1 {w W : World} (h : Below w.heap.size w W) {o : Obj} : Below w.heap.size w (W.alloc o) := h.alloc h.size o
theorem al2 {w W : World} (h : Below w.heap.size w W) {o o' : Obj} : Below w.heap.size w ((W.alloc o).alloc o') := al1 (al1 h)
/-- The blocks that stood before a call. -/
theorem blk1 {W W' : World} {o : Obj} (h : Below (W.alloc o).heap.size (W.alloc o) W') : W'.heap[W.heap.size]? = some o := by
  rw [h.block _ (by show _ < (W.heap.push _).size; simp)]
  show (W.heap.push _)[W.heap.size]? = _
  simp
theorem blk2 {W W' : World} {o o' : Obj} (h : Below ((W.alloc o).alloc o').heap.size ((W.alloc o).alloc o') W') : W'.heap[W.heap.size]? = some o ∧ W'.heap[W.heap.size + 1]? = some o' := by
  have h1 : W.heap.size < ((W.heap.push o).push o').size := by simp; omega
  have h2 : W.heap.size + 1 < ((W.heap.push o).push o').size := by simp
  constructor
  · rw [h.block _ h1]
    show ((W.heap.push o).push o')[W.heap.size]? = _
    simp [Array.getElem?_push]
  · rw [h.block _ h2]
    show ((W.heap.push o).push o')[W.heap.size + 1]? = _
    rw [Array.getElem?_push, if_pos (by simp)]

theorem blk1d {W W' : World} {o : Obj} (h : Below (W.alloc o).drew.heap.size (W.alloc o).drew W') : W'.heap[W.heap.size]? = some o := by
  rw [h.block _ (by show _ < (W.heap.push _).size; simp)]
  show (W.heap.push _)[W.heap.size]? = _
  simp
theorem blk2d {W W' : World} {o o' : Obj} (h : Below ((W.alloc o).alloc o').drew.heap.size ((W.alloc o).alloc o').drew W') : W'.heap[W.heap.size]? = some o ∧ W'.heap[W.heap.size + 1]? = some o' := by
  have h1 : W.heap.size < ((W.heap.push o).push o').size := by simp; omega
  have h2 : W.heap.size + 1 < ((W.heap.push o).push o').size := by simp
  constructor
  · rw [h.block _ h1]
    show ((W.heap.push o).push o')[W.heap.size]? = _
    simp [Array.getElem?_push]
  · rw [h.block _ h2]
    show ((W.heap.push o).push o')[W.heap.size + 1]? = _
    rw [Array.getElem?_push, if_pos (by simp)]

def FalseB (w0 : World) (s : Value) (wx : World) : Prop := s = .bool false ∧ Below w0.heap.size w0 wx
/-- The four cells of a number's box, to be read. -/
def QC (W : World) (b : Nat) (c0 c1 c2 c3 : Value) : Prop := W.cell? ⟨b, 0, none⟩ = some c0 ∧ W.cell? ⟨b, 1, none⟩ = some c1 ∧ W.cell? ⟨b, 2, none⟩ = some c2 ∧ W.cell? ⟨b, 3, none⟩ = some c3
theorem QC.cells {W : World} {b : Nat} {c0 c1 c2 c3 : Value} (h : QC W b c0 c1 c2 c3) :
    W.cell? ⟨b, 0, none⟩ = some c0 ∧ W.cell? ⟨b, 1, none⟩ = some c1 ∧ W.cell? ⟨b, 2, none⟩ = some c2 ∧ W.cell? ⟨b, 3, none⟩ = some c3 := h
theorem QC.below {W W' : World} {b k : Nat} {c0 c1 c2 c3 : Value} (h : QC W b c0 c1 c2 c3) (hb : Below k W W') (hk : W.heap.size ≤ k) : QC W' b c0 c1 c2 c3 := by
  have hlt := Nat.lt_of_lt_of_le (World.block_lt_of_cell? W _ h.1) hk
  exact ⟨(hb.cell (p := ⟨b, 0, none⟩) hlt).trans h.1, (hb.cell (p := ⟨b, 1, none⟩) hlt).trans h.2.1, (hb.cell (p := ⟨b, 2, none⟩) hlt).trans h.2.2.1, (hb.cell (p := ⟨b, 3, none⟩) hlt).trans h.2.2.2⟩

/-- Two boxes of numbers. -/
def TwoB (w0 : World) (r1 r2 : Rat) (sA sB : Value) (wx : World) : Prop := ∃ m1 m2 s a b p s' a' b' p', sA = .pointer (some ⟨m1, 0, none⟩) ∧ sB = .pointer (some ⟨m2, 0, none⟩) ∧
  QC wx m1 (.bool s) (u a) (u b) (.pointer p) ∧ QC wx m2 (.bool s') (u a') (u b') (.pointer p') ∧ IsQ wx (.agg #[.bool s, u a, u b, .pointer p]) r1 ∧ IsQ wx (.agg #[.bool s', u a', u b', .pointer p']) r2 ∧ Below w0.heap.size w0 wx

/-- What four stores into a box of a number leave. -/
abbrev set4 (W : World) (R : Nat) (d0 d1 d2 d3 : Value) : World := (((W.setCell ⟨R, 0, none⟩ d0).setCell ⟨R, 1, none⟩ d1).setCell ⟨R, 2, none⟩ d2).setCell ⟨R, 3, none⟩ d3
theorem isq_alloc {W : World} {v : Value} {r : Rat} {o : Obj} (h : IsQ W v r) : IsQ (W.alloc o) v r := h.below (below1 W o) (Nat.le_refl _)
theorem isq_set4 {W : World} {R : Nat} {v : Value} {r : Rat} {d0 d1 d2 d3 : Value} (hR : NBox W R) (h : IsQ W v r) : IsQ (set4 W R d0 d1 d2 d3) v r := h.other hR (only4 W R 0 d0 d1 d2 d3)
theorem nb_lt {W : World} {R : Nat} (h : NBox W R) : R < W.heap.size := by
  obtain ⟨cs, t, fr, hb, _, _⟩ := h
  exact (Array.getElem?_eq_some_iff.1 hb).1
theorem nb_alloc {W : World} {R : Nat} {o : Obj} (h : NBox W R) : NBox (W.alloc o) R := h.of_block ((below1 W o).block R (nb_lt h))
theorem nb_new {W : World} {s : Bool} {d1 d2 d3 : Value} : NBox (W.alloc (.cells #[.bool s, d1, d2, d3] 26)) W.heap.size := Box.nbox (c1 := d1) (c2 := d2) (c3 := d3) (heap_alloc_new W _)
theorem nb_new1 {W : World} {o : Obj} {s : Bool} {d1 d2 d3 : Value} : NBox ((W.alloc o).alloc (.cells #[.bool s, d1, d2, d3] 26)) (W.heap.size + 1) := by
  have h : (W.alloc o).heap.size = W.heap.size + 1 := by show (W.heap.push _).size = _; simp
  rw [← h]
  exact nb_new
theorem nb_set {W : World} {R R' : Nat} {s : Bool} {d1 d2 d3 : Value} (h : NBox W R) : NBox (set4 W R' (.bool s) d1 d2 d3) R := by
  by_cases e : R = R'
  · subst e
    obtain ⟨cs, t, fr, hb, ht, hz⟩ := h
    refine ⟨(((cs.setIfInBounds 0 (.bool s)).setIfInBounds 1 d1).setIfInBounds 2 d2).setIfInBounds 3 d3, t, fr, ?_, ht, ?_⟩
    · simp only [set4, World.setCell, Array.getElem?_modify, hb]
      rfl
    · intro x hx
      by_cases h0 : 0 < cs.size
      · simp [h0] at hx
        exact ⟨s, hx.symm⟩
      · have : cs.size = 0 := by omega
        simp [this] at hx
  · exact h.of_block ((only4 W R' 0 (.bool s) d1 d2 d3).block R e)
theorem bl_alloc {k : Nat} {w W : World} {o : Obj} (h : Below k w W) (hk : k ≤ W.heap.size) : Below k w (W.alloc o) := h.alloc hk o
theorem bl_set4 {k : Nat} {w W : World} {R : Nat} {d0 d1 d2 d3 : Value} (h : Below k w W) (hk : k ≤ R) : Below k w (set4 W R d0 d1 d2 d3) := h.trans ((only4 W R 0 d0 d1 d2 d3).below hk)

theorem qc_alloc {W : World} {b : Nat} {c0 c1 c2 c3 : Value} {o : Obj} (h : QC W b c0 c1 c2 c3) : QC (W.alloc o) b c0 c1 c2 c3 := h.below (below1 W o) (Nat.le_refl _)
theorem qc_box {W : World} {b : Nat} {c0 c1 c2 c3 : Value} (h : Box W b c0 c1 c2 c3) : QC W b c0 c1 c2 c3 := h.cells
theorem qc_new {W : World} {c0 c1 c2 c3 : Value} : QC (W.alloc (.cells #[c0, c1, c2, c3] 26)) W.heap.size c0 c1 c2 c3 := qc_box (heap_alloc_new W _)
theorem qc_new1 {W : World} {o : Obj} {c0 c1 c2 c3 : Value} : QC ((W.alloc o).alloc (.cells #[c0, c1, c2, c3] 26)) (W.heap.size + 1) c0 c1 c2 c3 := by
  have h : (W.alloc o).heap.size = W.heap.size + 1 := by show (W.heap.push _).size = _; simp
  rw [← h]
  exact qc_new
theorem box_set4 {W : World} {R : Nat} {c0 c1 c2 c3 d0 d1 d2 d3 : Value} (h : Box W R c0 c1 c2 c3) : Box (set4 W R d0 d1 d2 d3) R d0 d1 d2 d3 :=
  setCell_block (o := 3) (v := d3) (setCell_block (o := 2) (v := d2) (setCell_block (o := 1) (v := d1) (setCell_block (o := 0) (v := d0) h)))
theorem box_other {W : World} {R R' : Nat} {c0 c1 c2 c3 d0 d1 d2 d3 : Value} (h : Box W R c0 c1 c2 c3) (e : R ≠ R') : Box (set4 W R' d0 d1 d2 d3) R c0 c1 c2 c3 :=
  ((only4 W R' 0 d0 d1 d2 d3).block R e).trans h
theorem box_alloc {W : World} {R : Nat} {c0 c1 c2 c3 : Value} {o : Obj} (h : Box W R c0 c1 c2 c3) : Box (W.alloc o) R c0 c1 c2 c3 := h.below (below1 W o) (Nat.le_refl _)
theorem box_lt {W : World} {R : Nat} {c0 c1 c2 c3 : Value} (h : Box W R c0 c1 c2 c3) : R < W.heap.size := (Array.getElem?_eq_some_iff.1 h).1

/-- What two numbers leave that are stored into two new variables, in whatever order these came up. -/
structure TwoIn (w0 V : World) (r1 r2 : Rat) (s1 s2 : Bool) (a1 b1 a2 b2 : Nat) (p1 p2 : Option Addr) : Prop where
  q1 : IsQ V (.agg #[.bool s1, u a1, u b1, .pointer p1]) r1
  q2 : IsQ V (.agg #[.bool s2, u a2, u b2, .pointer p2]) r2
  hb : Below w0.heap.size w0 V

section
variable {w0 V : World} {r1 r2 : Rat} {s1 s2 z1 z2 : Bool} {a1 b1 a2 b2 : Nat} {p1 p2 : Option Addr} {y1 y2 y3 y4 y5 y6 : Value}
theorem two_old {A C : Nat} (h : TwoIn w0 V r1 r2 s1 s2 a1 b1 a2 b2 p1 p2) (hA : Box V A (.bool z1) y1 y2 y3) (hC : Box V C (.bool z2) y4 y5 y6) (e : A ≠ C) (lA : w0.heap.size ≤ A) (lC : w0.heap.size ≤ C) :
    TwoB w0 r1 r2 (.pointer (some ⟨A, 0, none⟩)) (.pointer (some ⟨C, 0, none⟩)) (set4 (set4 V A (.bool s1) (u a1) (u b1) (.pointer p1)) C (.bool s2) (u a2) (u b2) (.pointer p2)) :=
  ⟨_, _, _, _, _, _, _, _, _, _, rfl, rfl, qc_box (box_other (box_set4 hA) e), qc_box (box_set4 (box_other hC (Ne.symm e))), isq_set4 (nb_set (Box.nbox hC)) (isq_set4 (Box.nbox hA) h.q1), isq_set4 (nb_set (Box.nbox hC)) (isq_set4 (Box.nbox hA) h.q2), bl_set4 (bl_set4 h.hb lA) lC⟩
theorem two_oldnew {A : Nat} (h : TwoIn w0 V r1 r2 s1 s2 a1 b1 a2 b2 p1 p2) (hA : Box V A (.bool z1) y1 y2 y3) (lA : w0.heap.size ≤ A) :
    TwoB w0 r1 r2 (.pointer (some ⟨A, 0, none⟩)) (.pointer (some ⟨V.heap.size, 0, none⟩)) ((set4 V A (.bool s1) (u a1) (u b1) (.pointer p1)).alloc (.cells #[.bool s2, u a2, u b2, .pointer p2] 26)) := by
  have hs : (set4 V A (.bool s1) (u a1) (u b1) (.pointer p1)).heap.size = V.heap.size := (only4 V A 0 _ _ _ _).size
  refine ⟨_, _, _, _, _, _, _, _, _, _, rfl, rfl, qc_alloc (qc_box (box_set4 hA)), ?_, isq_alloc (isq_set4 (Box.nbox hA) h.q1), isq_alloc (isq_set4 (Box.nbox hA) h.q2), al1 (bl_set4 h.hb lA)⟩
  rw [← hs]
  exact qc_new
theorem two_newold {C : Nat} (h : TwoIn w0 V r1 r2 s1 s2 a1 b1 a2 b2 p1 p2) (hC : Box V C (.bool z2) y4 y5 y6) (lC : w0.heap.size ≤ C) :
    TwoB w0 r1 r2 (.pointer (some ⟨V.heap.size, 0, none⟩)) (.pointer (some ⟨C, 0, none⟩)) ((set4 V C (.bool s2) (u a2) (u b2) (.pointer p2)).alloc (.cells #[.bool s1, u a1, u b1, .pointer p1] 26)) := by
  have hs : (set4 V C (.bool s2) (u a2) (u b2) (.pointer p2)).heap.size = V.heap.size := (only4 V C 0 _ _ _ _).size
  refine ⟨_, _, _, _, _, _, _, _, _, _, rfl, rfl, ?_, qc_alloc (qc_box (box_set4 hC)), isq_alloc (isq_set4 (Box.nbox hC) h.q1), isq_alloc (isq_set4 (Box.nbox hC) h.q2), al1 (bl_set4 h.hb lC)⟩
  rw [← hs]
  exact qc_new
theorem two_newold' {C : Nat} (h : TwoIn w0 V r1 r2 s1 s2 a1 b1 a2 b2 p1 p2) (hC : Box V C (.bool z2) y4 y5 y6) (lC : w0.heap.size ≤ C) :
    TwoB w0 r1 r2 (.pointer (some ⟨V.heap.size, 0, none⟩)) (.pointer (some ⟨C, 0, none⟩)) (set4 (V.alloc (.cells #[.bool s1, u a1, u b1, .pointer p1] 26)) C (.bool s2) (u a2) (u b2) (.pointer p2)) := by
  have e : V.heap.size ≠ C := Nat.ne_of_gt (box_lt hC)
  refine ⟨_, _, _, _, _, _, _, _, _, _, rfl, rfl, ?_, qc_box (box_set4 (box_alloc hC)), isq_set4 (nb_alloc (Box.nbox hC)) (isq_alloc h.q1), isq_set4 (nb_alloc (Box.nbox hC)) (isq_alloc h.q2), bl_set4 (al1 h.hb) lC⟩
  exact qc_box (box_other (heap_alloc_new V _) e)
theorem two_new (h : TwoIn w0 V r1 r2 s1 s2 a1 b1 a2 b2 p1 p2) :
    TwoB w0 r1 r2 (.pointer (some ⟨V.heap.size, 0, none⟩)) (.pointer (some ⟨V.heap.size + 1, 0, none⟩)) ((V.alloc (.cells #[.bool s1, u a1, u b1, .pointer p1] 26)).alloc (.cells #[.bool s2, u a2, u b2, .pointer p2] 26)) :=
  ⟨_, _, _, _, _, _, _, _, _, _, rfl, rfl, qc_alloc qc_new, qc_new1, isq_alloc (isq_alloc h.q1), isq_alloc (isq_alloc h.q2), al2 h.hb⟩
theorem two_new' (h : TwoIn w0 V r1 r2 s1 s2 a1 b1 a2 b2 p1 p2) :
    TwoB w0 r1 r2 (.pointer (some ⟨V.heap.size + 1, 0, none⟩)) (.pointer (some ⟨V.heap.size, 0, none⟩)) ((V.alloc (.cells #[.bool s2, u a2, u b2, .pointer p2] 26)).alloc (.cells #[.bool s1, u a1, u b1, .pointer p1] 26)) :=
  ⟨_, _, _, _, _, _, _, _, _, _, rfl, rfl, qc_new1, qc_alloc qc_new, isq_alloc (isq_alloc h.q1), isq_alloc (isq_alloc h.q2), al2 h.hb⟩
end

end Go.Proofs.YtnolcmoecodeaaaGreatDoor

/- law.at: the number at a place between the ends of a span. -/
namespace Go.Proofs.YtnolcmoecodeaaaGreatDoor
open Go Go.RowKit Go.Proofs Lim

/-- A place of 0 to 255, as a part of 1. -/
def partOf (m : Nat) : Rat := ((m : Int) : Rat) / ((255 : Int) : Rat)
theorem partOf_range {m : Nat} (h : m ≤ 255) : 0 ≤ partOf m ∧ partOf m ≤ 1 := by
  unfold partOf
  have h2 : (((255 : Int) : Rat)) = 255 := rfl
  have h0 : (0 : Rat) ≤ ((m : Int) : Rat) := Rat.intCast_le_intCast.2 (show (0 : Int) ≤ (m : Int) by omega)
  have h1 : ((m : Int) : Rat) ≤ 255 := Rat.intCast_le_intCast.2 (show (m : Int) ≤ (255 : Int) by omega)
  rw [h2, Rat.div_def]
  have h3 : (255 : Rat)⁻¹ * 255 = 1 := Rat.inv_mul_cancel _ (by decide)
  have h4 : (0 : Rat) < (255 : Rat)⁻¹ := Rat.inv_pos.2 (by decide)
  have h5 := Rat.mul_nonneg h0 (Rat.le_of_lt h4)
  have h6 := Rat.mul_nonneg (a := 255 - ((m : Int) : Rat)) (b := (255 : Rat)⁻¹) (by grind) (Rat.le_of_lt h4)
  constructor
  · exact h5
  · grind

set_option maxHeartbeats 2000000 in
theorem at_any (v : Value) (lo hi : Rat) (m : Nat) (w : World) (h : IsS w v lo hi) (hm : m ≤ 255) (z1 : Siz lo 20) (z2 : Siz hi 20) (hG : Gr w) :
    Calls Tryz.prog 78 #[v, .int .u8 (m : Int)] w (QNew w (lo + (hi - lo) * partOf m)) := by
  have HOf := Lib.hid (fun W hG => of_q (m : Int) 255 (by omega) (by omega) (by decide) (by decide) W hG)
  have HG := Lib.hid (fun W (hW : Below w.heap.size w W) => hG.below hW hG.size)
  have zk : Siz (partOf m) 2 := (siz_int (m : Int) (by omega) (by omega)).div (siz_int 255 (by decide) (by decide)) (by decide)
  have OMi := Lib.hid (fun v1 v2 W (hW : Below w.heap.size w W) h1 h2 => o_minus w hG v1 v2 hi lo W hW h1 h2 (z2.sz (by omega)) (z1.sz (by omega)))
  have OTi := Lib.hid (fun v1 v2 W (hW : Below w.heap.size w W) h1 h2 => o_times w hG v1 v2 (hi - lo) (partOf m) W hW h1 h2 ((z2.sub z1).sz (by omega)) (zk.sz (by omega)))
  have OPl := Lib.hid (fun v1 v2 W (hW : Below w.heap.size w W) h1 h2 => o_plus w hG v1 v2 lo ((hi - lo) * partOf m) W hW h1 h2 (z1.sz (by omega)) (((z2.sub z1).mul zk).sz (by omega)))
  obtain ⟨s1, a1, b1, p1, s2, a2, b2, p2, rfl, i1, i2⟩ := h
  have I1 := Lib.hid i1
  have I2 := Lib.hid i2
  have hw : IntKind.i64.wrap (m : Int) = (m : Int) := by rw [IntKind.wrap_i64]; omega
  clear z1 z2 zk hG i1 i2 hm
  go_enter Tryz.func78, Tryz.ntmps78
  go_wp2_with fail
  obtain ⟨Wa, hW, hb, hX⟩ := newbox8 w (.bool s1) (u a1) (u b1) (.pointer p1) (.bool s2) (u a2) (u b2) (.pointer p2)
  have hs : Wa.heap.size = w.heap.size + 1 := by rw [← hW]; show (w.heap.push _).size = _; simp
  rw [hW]; clear hW
  have HB := Lib.hid hb
  have QL := Lib.hid (I1.out.below hb (Nat.le_refl _))
  have QH := Lib.hid (I2.out.below hb (Nat.le_refl _))
  obtain ⟨Wb, hW, hb', hZ, hs'⟩ := nbox Wa (w.heap.size + 1) hs (.bool false) (.int .u64 0) (.int .u64 0) (.pointer none)
  rw [hW]; clear hW
  have HX := Lib.hid (Box8.below hX hb' (Nat.le_refl _))
  have HB := Lib.hid (chain1 HB.out hb')
  have QL := Lib.hid (QL.out.below hb' (Nat.le_refl _))
  have QH := Lib.hid (QH.out.below hb' (Nat.le_refl _))
  have HZ := Lib.hid hZ
  clear hb hb' hX hZ hs hs' I1 I2
  refine (HOf.out _ (HG.out _ HB.out)).mono ?_
  rintro e Wc (⟨h0, _⟩ | ⟨_, vk, rfl, hk, hb⟩)
  · exact absurd h0 (by decide)
  have hk : IsQ Wc vk (partOf m) := hk
  obtain ⟨s3, a3, b3, p3, rfl⟩ := hk.form
  have HX := Lib.hid (Box8.below HX.out hb (Nat.le_refl _))
  have HZ := Lib.hid (HZ.out.below hb (Nat.le_refl _))
  have HB := Lib.hid (chain1 HB.out hb)
  have QL := Lib.hid (QL.out.below hb (Nat.le_refl _))
  have QH := Lib.hid (QH.out.below hb (Nat.le_refl _))
  have QK := Lib.hid hk
  clear hb hk HOf
  generalize partOf m = pm at *
  go_upto_region 2 with fail
  obtain ⟨Wd, hW, hb, hK, hs⟩ := nbox Wc Wc.heap.size rfl (.bool s3) (u a3) (u b3) (.pointer p3)
  rw [hW]; clear hW
  have lz : w.heap.size + 1 < Wc.heap.size := (Array.getElem?_eq_some_iff.1 HZ.out).1
  have HX := Lib.hid (Box8.below HX.out hb (Nat.le_refl _))
  have HZ := Lib.hid (HZ.out.below hb (Nat.le_refl _))
  have HB := Lib.hid (chain1 HB.out hb)
  have QL := Lib.hid (QL.out.below hb (Nat.le_refl _))
  have QH := Lib.hid (QH.out.below hb (Nat.le_refl _))
  have QK := Lib.hid (QK.out.below hb (Nat.le_refl _))
  have HK := Lib.hid hK
  clear hb hK hs
  generalize Wc.heap.size = n5 at *
  have n1 : ¬ w.heap.size = w.heap.size + 1 := by omega
  have n2 : ¬ w.heap.size + 1 = w.heap.size := by omega
  have n3 : ¬ n5 = w.heap.size + 1 := by omega
  have n4 : ¬ w.heap.size + 1 = n5 := by omega
  clear lz
  have hb0 := Below.refl Wd.heap.size Wd
  have ql := QL.out
  have qh := QH.out
  have qk := QK.out
  obtain ⟨c0, c1, c2, c3, c4, c5, c6, c7⟩ := HX.out.cells
  obtain ⟨k0, k1, k2, k3⟩ := HK.out.cells
  go_region_held3 (fun w' => w'.cell? ⟨w.heap.size, 0, none⟩ = some (.bool s1) ∧ w'.cell? ⟨w.heap.size, 1, none⟩ = some (u a1) ∧ w'.cell? ⟨w.heap.size, 2, none⟩ = some (u b1) ∧ w'.cell? ⟨w.heap.size, 3, none⟩ = some (.pointer p1) ∧ w'.cell? ⟨w.heap.size, 4, none⟩ = some (.bool s2) ∧ w'.cell? ⟨w.heap.size, 5, none⟩ = some (u a2) ∧ w'.cell? ⟨w.heap.size, 6, none⟩ = some (u b2) ∧ w'.cell? ⟨w.heap.size, 7, none⟩ = some (.pointer p2) ∧ w'.cell? ⟨n5, 0, none⟩ = some (.bool s3) ∧ w'.cell? ⟨n5, 1, none⟩ = some (u a3) ∧ w'.cell? ⟨n5, 2, none⟩ = some (u b3) ∧ w'.cell? ⟨n5, 3, none⟩ = some (.pointer p3)) (go_keep) (first | ((with_reducible refine (OMi.out _ _ _ (chain1 HB.out hb0.drew) qh.drewn ql.drewn).mono ?_); rintro e V1 ⟨v1, rfl, t1, hb⟩; obtain ⟨x1, y1, w1, r1, rfl⟩ := t1.form; replace hb0 : Below Wd.heap.size Wd V1 := chain hb0 hb; clear hb; clear c0 c1 c2 c3 c4 c5 c6 c7 k0 k1 k2 k3; replace ql := QL.out.below hb0 (Nat.le_refl _); replace qh := QH.out.below hb0 (Nat.le_refl _); replace qk := QK.out.below hb0 (Nat.le_refl _); obtain ⟨c0, c1, c2, c3, c4, c5, c6, c7⟩ := (HX.out.below hb0 (Nat.le_refl _)).cells; obtain ⟨k0, k1, k2, k3⟩ := (HK.out.below hb0 (Nat.le_refl _)).cells) | ((with_reducible refine (OTi.out _ _ _ (chain1 HB.out hb0) t1 qk).mono ?_); rintro e V1 ⟨v2, rfl, t2, hb⟩; obtain ⟨x2, y2, w2, r2, rfl⟩ := t2.form; clear t1; replace hb0 : Below Wd.heap.size Wd V1 := chain1 hb0 hb; clear hb; clear c0 c1 c2 c3 c4 c5 c6 c7 k0 k1 k2 k3; replace ql := QL.out.below hb0 (Nat.le_refl _); replace qh := QH.out.below hb0 (Nat.le_refl _); replace qk := QK.out.below hb0 (Nat.le_refl _); obtain ⟨c0, c1, c2, c3, c4, c5, c6, c7⟩ := (HX.out.below hb0 (Nat.le_refl _)).cells; obtain ⟨k0, k1, k2, k3⟩ := (HK.out.below hb0 (Nat.le_refl _)).cells) | ((with_reducible refine (OPl.out _ _ _ (chain1 HB.out hb0) ql t2).mono ?_); rintro e V1 ⟨v3, rfl, t3, hb⟩; obtain ⟨x3, y3, w3, r3, rfl⟩ := t3.form; clear t2; replace hb0 : Below Wd.heap.size Wd V1 := chain1 hb0 hb; clear hb; clear c0 c1 c2 c3 c4 c5 c6 c7 k0 k1 k2 k3; replace ql := QL.out.below hb0 (Nat.le_refl _); replace qh := QH.out.below hb0 (Nat.le_refl _); replace qk := QK.out.below hb0 (Nat.le_refl _); obtain ⟨c0, c1, c2, c3, c4, c5, c6, c7⟩ := (HX.out.below hb0 (Nat.le_refl _)).cells; obtain ⟨k0, k1, k2, k3⟩ := (HK.out.below hb0 (Nat.le_refl _)).cells; have hz := HZ.out.below hb0 (Nat.le_refl _); have zf := hz.frozen; obtain ⟨z0, z1, z2, z3⟩ := hz.cells; have zf0 := zf 0; have zf1 := zf 1; have zf2 := zf 2; have zf3 := zf 3; clear zf) | fail)
  have HFin := Lib.hid (QNew.stored (a0 := .bool x3) (a1 := u y3) (a2 := u w3) (a3 := .pointer r3) hz t3 (chain1 HB.out hb0) (by omega))
  clear hz t3 hb0 ql qh qk c0 c1 c2 c3 c4 c5 c6 c7 k0 k1 k2 k3
  go_wp2_with fail
  refine bodyPost_ret (v := .agg #[.bool x3, u y3, u w3, .pointer r3]) (by simp [results, Tryz.results78, go_sem, z0, z1, z2, z3]) rfl ?_
  exact HFin.out

end Go.Proofs.YtnolcmoecodeaaaGreatDoor

/- law.inside: a span lies in another one. -/
namespace Go.Proofs.YtnolcmoecodeaaaGreatDoor
open Go Go.RowKit Go.Proofs Lim

set_option maxHeartbeats 2000000 in
theorem inside_any (v1 v2 : Value) (a b c d : Rat) (k : Nat) (w : World) (h1 : IsS w v1 a b) (h2 : IsS w v2 c d) (za : Siz a k) (zb : Siz b k) (zc : Siz c k) (zd : Siz d k) (hk : (k : Int) ≤ 1073741824) :
    Calls Tryz.prog 81 #[v1, v2] w (Val w (.bool (hasQ c d a && hasQ c d b))) := by
  obtain ⟨s1, a1, b1, p1, s2, a2, b2, p2, rfl, i1, i2⟩ := h1
  have HA := Lib.hid (fun W (hW : Below w.heap.size w W) => has_any v2 (.agg #[.bool s1, u a1, u b1, .pointer p1]) c d a k W (h2.below hW (Nat.le_refl _)) (i1.below hW (Nat.le_refl _)) zc zd za hk)
  have HB' := Lib.hid (fun W (hW : Below w.heap.size w W) => has_any v2 (.agg #[.bool s2, u a2, u b2, .pointer p2]) c d b k W (h2.below hW (Nat.le_refl _)) (i2.below hW (Nat.le_refl _)) zc zd zb hk)
  obtain ⟨s3, a3, b3, p3, s4, a4, b4, p4, rfl, _, _⟩ := h2
  clear za zb zc zd hk i1 i2
  generalize hasQ c d b = y at *
  generalize hasQ c d a = x at *
  cases x with
  | true =>
    go_enter Tryz.func81, Tryz.ntmps81
    go_wp2_with fail
    obtain ⟨Wa, hW, hb, hX⟩ := newbox8 w (.bool s1) (u a1) (u b1) (.pointer p1) (.bool s2) (u a2) (u b2) (.pointer p2)
    have hs : Wa.heap.size = w.heap.size + 1 := by rw [← hW]; show (w.heap.push _).size = _; simp
    rw [hW]; clear hW
    obtain ⟨Wb, hW, hb', hY⟩ := newbox8 Wa (.bool s3) (u a3) (u b3) (.pointer p3) (.bool s4) (u a4) (u b4) (.pointer p4)
    rw [hs] at hY
    rw [hW]; clear hW
    have hX := Box8.below hX hb' (Nat.le_refl _)
    have HBb := Lib.hid (chain1 hb hb')
    clear hb hb' hs
    refine (HA.out _ HBb.out).mono ?_
    rintro e Wc ⟨rfl, hb⟩
    have hX := Box8.below hX hb (Nat.le_refl _)
    have hY := Box8.below hY hb (Nat.le_refl _)
    have HBb := Lib.hid (chain1 HBb.out hb)
    clear hb
    (obtain ⟨c0, c1, c2, c3, c4, c5, c6, c7⟩ := hX.cells)
    (obtain ⟨d0, d1, d2, d3, d4, d5, d6, d7⟩ := hY.cells)
    clear hX hY
    go_wp2_with fail
    refine (HB'.out _ HBb.out).mono ?_
    rintro e Wd ⟨rfl, hb⟩
    have HBb := Lib.hid (chain1 HBb.out hb)
    clear hb c0 c1 c2 c3 c4 c5 c6 c7 d0 d1 d2 d3 d4 d5 d6 d7
    go_wp2_with fail
    refine bodyPost_ret (v := .bool y) (by simp [results, Tryz.results81, go_sem]) rfl ?_
    exact ⟨by simp, HBb.out⟩
  | false =>
    go_enter Tryz.func81, Tryz.ntmps81
    go_wp2_with fail
    obtain ⟨Wa, hW, hb, hX⟩ := newbox8 w (.bool s1) (u a1) (u b1) (.pointer p1) (.bool s2) (u a2) (u b2) (.pointer p2)
    have hs : Wa.heap.size = w.heap.size + 1 := by rw [← hW]; show (w.heap.push _).size = _; simp
    rw [hW]; clear hW
    obtain ⟨Wb, hW, hb', hY⟩ := newbox8 Wa (.bool s3) (u a3) (u b3) (.pointer p3) (.bool s4) (u a4) (u b4) (.pointer p4)
    rw [hs] at hY
    rw [hW]; clear hW
    have hX := Box8.below hX hb' (Nat.le_refl _)
    have HBb := Lib.hid (chain1 hb hb')
    clear hb hb' hs
    refine (HA.out _ HBb.out).mono ?_
    rintro e Wc ⟨rfl, hb⟩
    have hX := Box8.below hX hb (Nat.le_refl _)
    have hY := Box8.below hY hb (Nat.le_refl _)
    have HBb := Lib.hid (chain1 HBb.out hb)
    clear hb
    (obtain ⟨c0, c1, c2, c3, c4, c5, c6, c7⟩ := hX.cells)
    (obtain ⟨d0, d1, d2, d3, d4, d5, d6, d7⟩ := hY.cells)
    clear hX hY
    go_wp2_with fail
    refine bodyPost_ret (v := .bool false) (by simp [results, Tryz.results81, go_sem]) rfl ?_
    exact ⟨by simp, HBb.out⟩

end Go.Proofs.YtnolcmoecodeaaaGreatDoor

/- Classes of symbols: numbers, texts, small integers, lists of texts; what calls do with them. -/
namespace Go.Proofs.YtnolcmoecodeaaaGreatDoor
open Go Go.RowKit Go.Proofs Lim

theorem IsNat.other' {W W' : World} {R : Nat} {cs : Array Value} {t : TypeId} {v : Value} {n : Nat} (hb : W.heap[R]? = some (.cells cs t (0, 0))) (ht : t ≠ 23) (h : IsNat W v n) (ho : Only R W W') : IsNat W' v n := by
  obtain ⟨xs, ⟨⟨ao, c, rfl, h1, h2, hr⟩, ok, typ⟩, htr, hv⟩ := h
  refine ⟨xs, ⟨⟨ao, c, rfl, h1, h2, fun hn => ?_⟩, ok, typ.other hb ht ho⟩, htr, hv⟩
  obtain ⟨b, off, rfl, row⟩ := hr hn
  refine ⟨b, off, rfl, ho.row ?_ row⟩
  intro e
  obtain ⟨cs', fr', hc⟩ := typ ⟨b, off, none⟩ _ _ rfl hn
  rw [show (⟨b, off, none⟩ : Addr).block = R from e, hb] at hc
  injection hc with hc
  injection hc with _ hc
  exact ht hc
theorem IsQ.other' {W W' : World} {R : Nat} {cs : Array Value} {t : TypeId} {v : Value} {r : Rat} (hb : W.heap[R]? = some (.cells cs t (0, 0))) (ht : t ≠ 23) (hz : ∀ x, cs[0]? = some x → Sym.noSl x = true) (h : IsQ W v r) (ho : Only R W W') : IsQ W' v r := by
  have h : Num W v _ _ _ := h
  show Num W' v _ _ _
  cases h with
  | low l hv hd hn hdB => exact .low l hv hd hn hdB
  | wide b x y hv hx hy h1 h2 hB h0 hd =>
    have hbR : b ≠ R := by
      intro e
      subst e
      obtain ⟨_, _, _, rfl, _⟩ := h1.form
      rw [World.cell?, hb] at hx
      have := hz _ (by simpa using hx)
      simp [Sym.noSl] at this
    exact .wide b x y hv ((ho.cell (p := ⟨b, 0, none⟩) hbR).trans hx) ((ho.cell (p := ⟨b, 1, none⟩) hbR).trans hy) (h1.other' hb ht ho) (h2.other' hb ht ho) hB h0 hd

namespace Sym

/-- A class: how many cells, whether the first one is no slice, what it says. -/
structure Cl where
  n : Nat
  num : Bool
  p : World → (Nat → Value) → Prop
structure Cl.Ok (okT : List Nat) (B : Nat) (x : Cl) : Prop where
  below : ∀ w w' f, Below w.heap.size w w' → x.p w f → x.p w' f
  only : ∀ w w' R f cs t, B ≤ R → w.heap[R]? = some (.cells cs t (0, 0)) → t ∈ okT → (∀ x, cs[0]? = some x → noSl x = true) → Only R w w' → x.p w f → x.p w' f
  num : ∀ w f, x.num = true → x.p w f → noSl (f 0) = true
  cell : ∀ w f j, x.p w f → j < x.n → (f j).oneCell' = true

noncomputable def mkC (csz : List Nat) (numc : List Bool) (okT : List Nat) (nt : Nat) (cl : List Cl) (w0 : World) : Ctx :=
  { P := Tryz.prog, csz, numc, okT, nt, E := fun c w f => match cl[c]? with | some x => x.p w f | none => False, w0 }

theorem mkC_ok {csz : List Nat} {numc : List Bool} {okT : List Nat} {nt : Nat} {cl : List Cl} {w0 : World} (h : ∀ x ∈ cl, x.Ok okT w0.heap.size) (h1 : cl.map (·.n) = csz) (h2 : cl.map (·.num) = numc) : (mkC csz numc okT nt cl w0).Ok := by
  refine ⟨?_, ?_, ?_, ?_, by kernel_rfl⟩
  · intro c w w' f hb hE
    simp only [mkC] at hE ⊢
    split at hE
    · rename_i x hx
      exact (h x (List.mem_of_getElem? hx)).below w w' f hb hE
    · exact hE
  · intro c w w' R f cs t hB ho ht hz hb hE
    simp only [mkC] at hE ⊢
    split at hE
    · rename_i x hx
      exact (h x (List.mem_of_getElem? hx)).only w w' R f cs t hB ho ht hz hb hE
    · exact hE
  · intro c w f hn hE
    simp only [mkC] at hE hn
    split at hE
    · rename_i x hx
      refine (h x (List.mem_of_getElem? hx)).num w f ?_ hE
      rw [← h2] at hn
      simpa [List.getD, hx] using hn
    · exact hE.elim
  · intro c w f j hE hj
    simp only [mkC] at hE hj
    split at hE
    · rename_i x hx
      refine (h x (List.mem_of_getElem? hx)).cell w f j hE ?_
      rw [← h1] at hj
      simpa [List.getD, hx] using hj
    · exact hE.elim

/-- A number r of at most k limbs. -/
def clQ (r : Rat) (k : Nat) : Cl := ⟨4, true, fun w f => IsQ w (.agg #[f 0, f 1, f 2, f 3]) r ∧ Siz r k⟩
/-- One cell, a value that is known. -/
def clV (v : Value) : Cl := ⟨1, noSl v, fun _ f => f 0 = v⟩
/-- A list of texts. -/
def clT (ls : List (List UInt8)) : Cl := ⟨1, false, fun w f => ∃ b, f 0 = .slice (some ⟨b, 0, none⟩) ls.length ls.length ∧ w.heap[b]? = some (.cells (ls.map str).toArray 9 (0, 0))⟩

theorem clQ_ok {okT : List Nat} {B : Nat} (ht : ∀ t ∈ okT, t ≠ 23) (r : Rat) (k : Nat) : (clQ r k).Ok okT B := by
  refine ⟨fun w w' f hb h => ⟨h.1.below hb (Nat.le_refl _), h.2⟩, fun w w' R f cs t _ ho hm hz hb h => ⟨h.1.other' ho (ht t hm) hz hb, h.2⟩, ?_, ?_⟩
  · intro w f _ h
    obtain ⟨neg, a, b, p, hv⟩ := h.1.form
    injection hv with hv
    have : f 0 = .bool neg := by have := congrArg (fun x => x[0]?) hv; simpa using this
    rw [this]; rfl
  · intro w f j h hj
    obtain ⟨neg, a, b, p, hv⟩ := h.1.form
    injection hv with hv
    have h0 : f 0 = .bool neg := by have := congrArg (fun x => x[0]?) hv; simpa using this
    have h1 : f 1 = u a := by have := congrArg (fun x => x[1]?) hv; simpa using this
    have h2 : f 2 = u b := by have := congrArg (fun x => x[2]?) hv; simpa using this
    have h3 : f 3 = .pointer p := by have := congrArg (fun x => x[3]?) hv; simpa using this
    have hj : j < 4 := hj
    match j, hj with
    | 0, _ => rw [h0]; rfl
    | 1, _ => rw [h1]; rfl
    | 2, _ => rw [h2]; rfl
    | 3, _ => rw [h3]; rfl
theorem clV_ok {okT : List Nat} {B : Nat} {v : Value} (hv : v.oneCell' = true) : (clV v).Ok okT B := by
  refine ⟨fun w w' f hb h => h, fun w w' R f cs t _ ho hm hz hb h => h, ?_, ?_⟩
  · intro w f h1 h
    rw [show f 0 = v from h]
    exact h1
  · intro w f j h hj
    have hj : j < 1 := hj
    obtain rfl : j = 0 := by omega
    rw [show f 0 = v from h]
    exact hv
theorem clT_ok {okT : List Nat} {B : Nat} (ht : ∀ t ∈ okT, t ≠ 9) (ls : List (List UInt8)) : (clT ls).Ok okT B := by
  refine ⟨?_, ?_, ?_, ?_⟩
  · rintro w w' f hb ⟨b, h1, h2⟩
    exact ⟨b, h1, (hb.block b (Array.getElem?_eq_some_iff.1 h2).1).trans h2⟩
  · rintro w w' R f cs t _ ho hm hz hb ⟨b, h1, h2⟩
    refine ⟨b, h1, (hb.block b ?_).trans h2⟩
    intro e
    subst e
    rw [ho] at h2
    injection h2 with h2
    injection h2 with _ h2
    exact ht t hm h2
  · intro w f h; cases h
  · rintro w f j ⟨b, h1, h2⟩ hj
    have hj : j < 1 := hj
    obtain rfl : j = 0 := by omega
    rw [h1]; rfl

def qp (c : Nat) : Pat := .agg [.cls c 4]
def sp (c d : Nat) : Pat := .agg [.cls c 4, .cls d 4]
def vp (v : Value) : Pat := .one (.lit v)
def op (c : Nat) : Pat := .one (.cls c 1)

section
variable {csz : List Nat} {numc : List Bool} {okT : List Nat} {nt : Nat} {cl : List Cl} {w0 : World} {w : World} {v : Value} {p1 p2 p3 p4 : Pat} {c d c1 c2 c3 c4 c5 c6 : Nat} {r s t r1 r2 r3 r4 : Rat} {k k1 k2 k3 k4 k5 k6 : Nat}

theorem cells4 (f : Nat → Value) : (List.range 4).map f = [f 0, f 1, f 2, f 3] := rfl
theorem qp_is (h : cl[c]? = some (clQ r k)) : (qp c).is (mkC csz numc okT nt cl w0) w v ↔ IsQ w v r ∧ Siz r k := by
  constructor
  · rintro ⟨vs, ⟨xs, ys, rfl, ⟨f, hE, rfl⟩, hy⟩, rfl⟩
    rw [show ys = [] from hy]
    simp only [mkC, h] at hE
    exact hE
  · rintro ⟨h1, h2⟩
    obtain ⟨neg, a, b, p, rfl⟩ := h1.form
    refine ⟨[.bool neg, u a, u b, .pointer p], ⟨_, [], (List.append_nil _).symm, ⟨fun j => [Value.bool neg, u a, u b, .pointer p].getD j undef, ?_, rfl⟩, rfl⟩, rfl⟩
    simp only [mkC, h]
    exact ⟨h1, h2⟩
theorem sp_is (h : cl[c]? = some (clQ r k)) (h' : cl[d]? = some (clQ s k1)) : (sp c d).is (mkC csz numc okT nt cl w0) w v ↔ IsS w v r s ∧ Siz r k ∧ Siz s k1 := by
  constructor
  · rintro ⟨vs, ⟨xs, ys, rfl, ⟨f, hE, rfl⟩, ⟨xs', ys', rfl, ⟨f', hE', rfl⟩, hy⟩⟩, rfl⟩
    rw [show ys' = [] from hy]
    simp only [mkC, h] at hE
    simp only [mkC, h'] at hE'
    obtain ⟨s1, a1, b1, p1, e1⟩ := hE.1.form
    obtain ⟨s2, a2, b2, p2, e2⟩ := hE'.1.form
    refine ⟨⟨s1, a1, b1, p1, s2, a2, b2, p2, ?_, e1 ▸ hE.1, e2 ▸ hE'.1⟩, hE.2, hE'.2⟩
    injection e1 with e1
    injection e2 with e2
    have g0 : f 0 = .bool s1 := by have := congrArg (fun x => x[0]?) e1; simpa using this
    have g1 : f 1 = u a1 := by have := congrArg (fun x => x[1]?) e1; simpa using this
    have g2 : f 2 = u b1 := by have := congrArg (fun x => x[2]?) e1; simpa using this
    have g3 : f 3 = .pointer p1 := by have := congrArg (fun x => x[3]?) e1; simpa using this
    have i0 : f' 0 = .bool s2 := by have := congrArg (fun x => x[0]?) e2; simpa using this
    have i1 : f' 1 = u a2 := by have := congrArg (fun x => x[1]?) e2; simpa using this
    have i2 : f' 2 = u b2 := by have := congrArg (fun x => x[2]?) e2; simpa using this
    have i3 : f' 3 = .pointer p2 := by have := congrArg (fun x => x[3]?) e2; simpa using this
    simp [cells4, g0, g1, g2, g3, i0, i1, i2, i3]
  · rintro ⟨⟨s1, a1, b1, p1, s2, a2, b2, p2, rfl, h1, h2⟩, z1, z2⟩
    refine ⟨[.bool s1, u a1, u b1, .pointer p1, .bool s2, u a2, u b2, .pointer p2], ⟨[.bool s1, u a1, u b1, .pointer p1], [.bool s2, u a2, u b2, .pointer p2], rfl, ⟨fun j => [Value.bool s1, u a1, u b1, .pointer p1].getD j undef, ?_, rfl⟩, ⟨_, [], (List.append_nil _).symm, ⟨fun j => [Value.bool s2, u a2, u b2, .pointer p2].getD j undef, ?_, rfl⟩, rfl⟩⟩, rfl⟩
    · simp only [mkC, h]; exact ⟨h1, z1⟩
    · simp only [mkC, h']; exact ⟨h2, z2⟩
theorem op_is {x : Value} (h : cl[c]? = some (clV x)) : (op c).is (mkC csz numc okT nt cl w0) w v ↔ v = x := by
  constructor
  · rintro ⟨f, hE, hv⟩
    simp only [mkC, h] at hE
    have : v = f 0 := by simpa [List.range_succ] using hv
    rw [this]; exact hE
  · rintro rfl
    refine ⟨fun _ => v, ?_, rfl⟩
    simp only [mkC, h]
    rfl
theorem vp_is {C : Ctx} {x : Value} : (vp x).is C w v ↔ v = x := by
  constructor
  · intro h
    have h : [v] = [x] := h
    simpa using h
  · rintro rfl; exact rfl
theorem vp_r (C : Ctx) (w : World) (x : Value) : RPat.is C w (.val (vp x)) x := rfl
theorem op_isT {ls : List (List UInt8)} (h : cl[c]? = some (clT ls)) : (op c).is (mkC csz numc okT nt cl w0) w v ↔ ∃ b, v = .slice (some ⟨b, 0, none⟩) ls.length ls.length ∧ w.heap[b]? = some (.cells (ls.map str).toArray 9 (0, 0)) := by
  constructor
  · rintro ⟨f, hE, hv⟩
    simp only [mkC, h] at hE
    have : v = f 0 := by simpa [List.range_succ] using hv
    rw [this]; exact hE
  · intro hv
    refine ⟨fun _ => v, ?_, rfl⟩
    simp only [mkC, h]
    exact hv

/-- A pattern of a number; of a span. -/
def PQ (csz : List Nat) (numc : List Bool) (okT : List Nat) (nt : Nat) (cl : List Cl) (w0 : World) (p : Pat) (r : Rat) (k : Nat) : Prop := ∀ w v, p.is (mkC csz numc okT nt cl w0) w v → IsQ w v r ∧ Siz r k
def PS (csz : List Nat) (numc : List Bool) (okT : List Nat) (nt : Nat) (cl : List Cl) (w0 : World) (p : Pat) (r : Rat) (k : Nat) (s : Rat) (j : Nat) : Prop := ∀ w v, p.is (mkC csz numc okT nt cl w0) w v → IsS w v r s ∧ Siz r k ∧ Siz s j
theorem pq (h : cl[c]? = some (clQ r k)) : PQ csz numc okT nt cl w0 (qp c) r k := fun _ _ h1 => (qp_is h).1 h1
theorem ps (h : cl[c]? = some (clQ r k)) (h' : cl[d]? = some (clQ s k1)) : PS csz numc okT nt cl w0 (sp c d) r k s k1 := fun _ _ h1 => (sp_is h h').1 h1
/-- The number 0, as its zero value. -/
def zq : Pat := .agg [.lit (.bool false), .lit (.int .u64 0), .lit (.int .u64 0), .lit (.pointer none)]
theorem pq0 : PQ csz numc okT nt cl w0 zq 0 1 := by
  rintro w v ⟨vs, ⟨_, _, rfl, rfl, _, _, rfl, rfl, _, _, rfl, rfl, _, _, rfl, rfl, rfl⟩, rfl⟩
  exact ⟨zero_val _, Siz.zero _ (by decide)⟩

/-- Sizes that fit. -/
def fits (n k : Nat) : Bool := Nat.ble n k && Nat.ble k 1000000
theorem fits_le {n k : Nat} (h : fits n k = true) : n ≤ k ∧ k ≤ 1000000 := by
  simp only [fits, Bool.and_eq_true] at h
  exact ⟨Nat.le_of_ble_eq_true h.1, Nat.le_of_ble_eq_true h.2⟩

abbrev V (csz : List Nat) (numc : List Bool) (okT : List Nat) (nt : Nat) (cl : List Cl) (w0 : World) (hd : Hd) (args : List Pat) (res : RPat) : Prop := Ent.Valid (mkC csz numc okT nt cl w0) ⟨hd, args, res⟩

/-- One number to a number. -/
theorem ent_qq {f : Nat} (hE : Enters Tryz.prog f) (h1 : PQ csz numc okT nt cl w0 p1 r k1) (h2 : cl[c2]? = some (clQ t k2)) (hz : Siz r k1 → Siz t k2)
    (hc : ∀ W v, Below w0.heap.size w0 W → IsQ W v r → Siz r k1 → Calls Tryz.prog f #[v] W (QNew W t)) : V csz numc okT nt cl w0 (.call f) [p1] (.val (qp c2)) := by
  refine ⟨hE, fun w vs hb hvs => ?_⟩
  obtain ⟨v1, _, rfl, h4, rfl⟩ := hvs
  have h4 := h1 _ _ h4
  refine (hc w v1 hb h4.1 h4.2).mono ?_
  rintro e w' ⟨v, rfl, hv, hb'⟩
  exact ⟨v, rfl, (qp_is h2).2 ⟨hv, hz h4.2⟩, hb'⟩
/-- Two numbers to a number. -/
theorem ent_qqq {f : Nat} (hE : Enters Tryz.prog f) (h1 : PQ csz numc okT nt cl w0 p1 r k1) (h2 : PQ csz numc okT nt cl w0 p2 s k2) (h3 : cl[c3]? = some (clQ t k3)) (hz : Siz r k1 → Siz s k2 → Siz t k3)
    (hc : ∀ W v1 v2, Below w0.heap.size w0 W → IsQ W v1 r → Siz r k1 → IsQ W v2 s → Siz s k2 → Calls Tryz.prog f #[v1, v2] W (QNew W t)) : V csz numc okT nt cl w0 (.call f) [p1, p2] (.val (qp c3)) := by
  refine ⟨hE, fun w vs hb hvs => ?_⟩
  obtain ⟨v1, _, rfl, h4, v2, _, rfl, h5, rfl⟩ := hvs
  have h4 := h1 _ _ h4
  have h5 := h2 _ _ h5
  refine (hc w v1 v2 hb h4.1 h4.2 h5.1 h5.2).mono ?_
  rintro e w' ⟨v, rfl, hv, hb'⟩
  exact ⟨v, rfl, (qp_is h3).2 ⟨hv, hz h4.2 h5.2⟩, hb'⟩
/-- One number to a known value. -/
theorem ent_qv {f : Nat} {x : Value} (hE : Enters Tryz.prog f) (h1 : PQ csz numc okT nt cl w0 p1 r k1)
    (hc : ∀ W v, Below w0.heap.size w0 W → IsQ W v r → Siz r k1 → Calls Tryz.prog f #[v] W (Val W x)) : V csz numc okT nt cl w0 (.call f) [p1] (.val (vp x)) := by
  refine ⟨hE, fun w vs hb hvs => ?_⟩
  obtain ⟨v1, _, rfl, h4, rfl⟩ := hvs
  have h4 := h1 _ _ h4
  refine (hc w v1 hb h4.1 h4.2).mono ?_
  rintro e w' ⟨rfl, hb'⟩
  exact ⟨_, rfl, vp_r _ _ _, hb'⟩
theorem ent_qqv {f : Nat} {x : Value} (hE : Enters Tryz.prog f) (h1 : PQ csz numc okT nt cl w0 p1 r k1) (h2 : PQ csz numc okT nt cl w0 p2 s k2)
    (hc : ∀ W v1 v2, Below w0.heap.size w0 W → IsQ W v1 r → Siz r k1 → IsQ W v2 s → Siz s k2 → Calls Tryz.prog f #[v1, v2] W (Val W x)) : V csz numc okT nt cl w0 (.call f) [p1, p2] (.val (vp x)) := by
  refine ⟨hE, fun w vs hb hvs => ?_⟩
  obtain ⟨v1, _, rfl, h4, v2, _, rfl, h5, rfl⟩ := hvs
  have h4 := h1 _ _ h4
  have h5 := h2 _ _ h5
  refine (hc w v1 v2 hb h4.1 h4.2 h5.1 h5.2).mono ?_
  rintro e w' ⟨rfl, hb'⟩
  exact ⟨_, rfl, vp_r _ _ _, hb'⟩
/-- A span to a span. -/
theorem ent_ss {f : Nat} (hE : Enters Tryz.prog f) (h1 : PS csz numc okT nt cl w0 p1 r1 k1 r2 k2) (h5 : cl[c5]? = some (clQ r k5)) (h6 : cl[c6]? = some (clQ s k6)) (hz : Siz r1 k1 → Siz r2 k2 → Siz r k5 ∧ Siz s k6)
    (hc : ∀ W v, Below w0.heap.size w0 W → IsS W v r1 r2 → Siz r1 k1 → Siz r2 k2 → Calls Tryz.prog f #[v] W (SpNew W r s)) : V csz numc okT nt cl w0 (.call f) [p1] (.val (sp c5 c6)) := by
  refine ⟨hE, fun w vs hb hvs => ?_⟩
  obtain ⟨v1, _, rfl, h7, rfl⟩ := hvs
  have h7 := h1 _ _ h7
  refine (hc w v1 hb h7.1 h7.2.1 h7.2.2).mono ?_
  rintro e w' ⟨v, rfl, hv, hb'⟩
  exact ⟨v, rfl, (sp_is h5 h6).2 ⟨hv, hz h7.2.1 h7.2.2⟩, hb'⟩
/-- Two spans to a span. -/
theorem ent_sss {f : Nat} (hE : Enters Tryz.prog f) (h1 : PS csz numc okT nt cl w0 p1 r1 k1 r2 k2) (h3 : PS csz numc okT nt cl w0 p3 r3 k3 r4 k4) (h5 : cl[c5]? = some (clQ r k5)) (h6 : cl[c6]? = some (clQ s k6))
    (hz : Siz r1 k1 → Siz r2 k2 → Siz r3 k3 → Siz r4 k4 → Siz r k5 ∧ Siz s k6)
    (hc : ∀ W v1 v2, Below w0.heap.size w0 W → IsS W v1 r1 r2 → IsS W v2 r3 r4 → Siz r1 k1 → Siz r2 k2 → Siz r3 k3 → Siz r4 k4 → Calls Tryz.prog f #[v1, v2] W (SpNew W r s)) : V csz numc okT nt cl w0 (.call f) [p1, p3] (.val (sp c5 c6)) := by
  refine ⟨hE, fun w vs hb hvs => ?_⟩
  obtain ⟨v1, _, rfl, h7, v2, _, rfl, h8, rfl⟩ := hvs
  have h7 := h1 _ _ h7
  have h8 := h3 _ _ h8
  refine (hc w v1 v2 hb h7.1 h8.1 h7.2.1 h7.2.2 h8.2.1 h8.2.2).mono ?_
  rintro e w' ⟨v, rfl, hv, hb'⟩
  exact ⟨v, rfl, (sp_is h5 h6).2 ⟨hv, hz h7.2.1 h7.2.2 h8.2.1 h8.2.2⟩, hb'⟩

theorem en {f : Nat} {fn : Func} {c : Code} (hf : Tryz.prog.funcs[f]? = some fn) (hname : (fn.name == "runtime.NumGoroutine") = false) (hb : fn.body = some c) : Enters Tryz.prog f := enters_of hf hname hb

theorem e_plus (hG : Gr w0) (h1 : PQ csz numc okT nt cl w0 p1 r k1) (h2 : PQ csz numc okT nt cl w0 p2 s k2) (h3 : cl[c3]? = some (clQ (r + s) k3)) (hk : fits (k1 + k2 + 1) k3 = true) : V csz numc okT nt cl w0 (.call 29) [p1, p2] (.val (qp c3)) := by
  have hk := fits_le hk
  exact ent_qqq (enters_of Tryz.func29 (by kernel_rfl) rfl) h1 h2 h3 (fun z1 z2 => (z1.add z2).le (by omega)) (fun W v1 v2 hb q1 z1 q2 z2 => plus_q v1 v2 r s k3 W q1 q2 (z1.le (by omega)) (z2.le (by omega)) (by omega) (hG.below hb hG.size))
theorem e_minus (hG : Gr w0) (h1 : PQ csz numc okT nt cl w0 p1 r k1) (h2 : PQ csz numc okT nt cl w0 p2 s k2) (h3 : cl[c3]? = some (clQ (r - s) k3)) (hk : fits (k1 + k2 + 1) k3 = true) : V csz numc okT nt cl w0 (.call 31) [p1, p2] (.val (qp c3)) := by
  have hk := fits_le hk
  exact ent_qqq (enters_of Tryz.func31 (by kernel_rfl) rfl) h1 h2 h3 (fun z1 z2 => (z1.sub z2).le (by omega)) (fun W v1 v2 hb q1 z1 q2 z2 => minus_q v1 v2 r s k3 W q1 q2 (z1.le (by omega)) (z2.le (by omega)) (by omega) (hG.below hb hG.size))
theorem e_times (hG : Gr w0) (h1 : PQ csz numc okT nt cl w0 p1 r k1) (h2 : PQ csz numc okT nt cl w0 p2 s k2) (h3 : cl[c3]? = some (clQ (r * s) k3)) (hk : fits (k1 + k2) k3 = true) : V csz numc okT nt cl w0 (.call 33) [p1, p2] (.val (qp c3)) := by
  have hk := fits_le hk
  exact ent_qqq (enters_of Tryz.func33 (by kernel_rfl) rfl) h1 h2 h3 (fun z1 z2 => (z1.mul z2).le (by omega)) (fun W v1 v2 hb q1 z1 q2 z2 => times_q v1 v2 r s k3 W q1 q2 (z1.le (by omega)) (z2.le (by omega)) (by omega) (hG.below hb hG.size))
theorem e_neg (h1 : PQ csz numc okT nt cl w0 p1 r k1) (h2 : cl[c2]? = some (clQ (-r) k2)) (hk : fits k1 k2 = true) : V csz numc okT nt cl w0 (.call 41) [p1] (.val (qp c2)) :=
  ent_qq (enters_of Tryz.func41 (by kernel_rfl) rfl) h1 h2 (fun z => z.neg.le (fits_le hk).1) (fun W v _ q _ => neg_q v r W q)
theorem absQ_siz (z : Siz r k) : Siz (absQ r) k := by
  unfold absQ
  split
  · exact z.neg
  · exact z
theorem e_abs (h1 : PQ csz numc okT nt cl w0 p1 r k1) (h2 : cl[c2]? = some (clQ (absQ r) k2)) (hk : fits k1 k2 = true) : V csz numc okT nt cl w0 (.call 43) [p1] (.val (qp c2)) :=
  ent_qq (enters_of Tryz.func43 (by kernel_rfl) rfl) h1 h2 (fun z => (absQ_siz z).le (fits_le hk).1) (fun W v _ q _ => abs_q v r W q)
theorem e_floor (hG : Gr w0) (h1 : PQ csz numc okT nt cl w0 p1 r k1) (h2 : cl[c2]? = some (clQ ((r.floor : Int) : Rat) k2)) (h0 : Nat.ble 1 k1 = true) (hk : fits (k1 + 2) k2 = true) : V csz numc okT nt cl w0 (.call 45) [p1] (.val (qp c2)) := by
  have hk := fits_le hk
  have h0 := Nat.le_of_ble_eq_true h0
  exact ent_qq (enters_of Tryz.func45 (by kernel_rfl) rfl) h1 h2 (fun z => (z.floor h0).le hk.1) (fun W v hb q z => floor_q v r k1 W q z h0 (by omega) (hG.below hb hG.size))
theorem e_ceil (hG : Gr w0) (h1 : PQ csz numc okT nt cl w0 p1 r k1) (h2 : cl[c2]? = some (clQ ((r.ceil : Int) : Rat) k2)) (h0 : Nat.ble 1 k1 = true) (hk : fits (k1 + 2) k2 = true) : V csz numc okT nt cl w0 (.call 47) [p1] (.val (qp c2)) := by
  have hk := fits_le hk
  have h0 := Nat.le_of_ble_eq_true h0
  exact ent_qq (enters_of Tryz.func47 (by kernel_rfl) rfl) h1 h2 (fun z => (z.ceil h0).le hk.1) (fun W v hb q z => ceil_q v r k1 W q z h0 (by omega) (hG.below hb hG.size))
theorem e_sign {x : Int} (h1 : PQ csz numc okT nt cl w0 p1 r k1) (hx : sign r = x) : V csz numc okT nt cl w0 (.call 23) [p1] (.val (vp (.int .i64 x))) :=
  ent_qv (enters_of Tryz.func23 (by kernel_rfl) rfl) h1 (fun W v _ q _ => hx ▸ sign_q v r W q)
theorem e_cmp {x : Int} (h1 : PQ csz numc okT nt cl w0 p1 r k1) (h2 : PQ csz numc okT nt cl w0 p2 s k2) (hk : fits (k1 + k2) 1000000 = true) (hx : cmpQ r s = x) : V csz numc okT nt cl w0 (.call 35) [p1, p2] (.val (vp (.int .i64 x))) := by
  have hk := fits_le hk
  exact ent_qqv (enters_of Tryz.func35 (by kernel_rfl) rfl) h1 h2 (fun W v1 v2 _ q1 z1 q2 z2 => hx ▸ cmp_q v1 v2 r s (k1 + k2) W q1 q2 (z1.le (by omega)) (z2.le (by omega)) (by omega))
theorem e_equal {x : Bool} (h1 : PQ csz numc okT nt cl w0 p1 r k1) (h2 : PQ csz numc okT nt cl w0 p2 s k2) (hk : fits (k1 + k2) 1000000 = true) (hx : decide (r = s) = x) : V csz numc okT nt cl w0 (.call 77) [p1, p2] (.val (vp (.bool x))) := by
  have hk := fits_le hk
  exact ent_qqv (enters_of Tryz.func77 (by kernel_rfl) rfl) h1 h2 (fun W v1 v2 _ q1 z1 q2 z2 => hx ▸ equal_any v1 v2 r s (k1 + k2) W q1 q2 (z1.le (by omega)) (z2.le (by omega)) (by omega))
theorem e_over (hG : Gr w0) (h1 : PQ csz numc okT nt cl w0 p1 r k1) (h2 : PQ csz numc okT nt cl w0 p2 s k2) (h3 : cl[c3]? = some (clQ (r / s) k3)) (hk : fits (k1 + k2) k3 = true) (h0 : s ≠ 0) : V csz numc okT nt cl w0 (.call 38) [p1, p2] (.tup [qp c3, vp (.int .i64 0)]) := by
  have hk := fits_le hk
  have hn : s.num ≠ 0 := fun e => h0 (num_zero.1 e)
  refine ⟨enters_of Tryz.func38 (by kernel_rfl) rfl, fun w vs hb hvs => ?_⟩
  obtain ⟨v1, _, rfl, h4, v2, _, rfl, h5, rfl⟩ := hvs
  have h4 := h1 _ _ h4
  have h5 := h2 _ _ h5
  refine (over_q v1 v2 r s k3 w h4.1 h5.1 hn (h4.2.le (by omega)) (h5.2.le (by omega)) (by omega) (hG.below hb hG.size)).mono ?_
  rintro e w' ⟨v, rfl, hv, hb'⟩
  exact ⟨_, rfl, ⟨_, ⟨_, _, rfl, (qp_is h3).2 ⟨hv, (h4.2.div h5.2 hn).le hk.1⟩, _, _, rfl, vp_is.2 rfl, rfl⟩, rfl⟩, hb'⟩
theorem e_over0 (h1 : PQ csz numc okT nt cl w0 p1 r k1) (h2 : PQ csz numc okT nt cl w0 p2 s k2) (h3 : cl[c3]? = some (clQ 0 k3)) (hk : fits 1 k3 = true) (h0 : s = 0) : V csz numc okT nt cl w0 (.call 38) [p1, p2] (.tup [qp c3, vp (.int .i64 10)]) := by
  refine ⟨enters_of Tryz.func38 (by kernel_rfl) rfl, fun w vs hb hvs => ?_⟩
  obtain ⟨v1, _, rfl, h4, v2, _, rfl, h5, rfl⟩ := hvs
  have h4 := h1 _ _ h4
  have h5 := h2 _ _ h5
  refine (over_zero v1 v2 r s w h4.1 h5.1 (num_zero.2 h0)).mono ?_
  rintro e w' ⟨rfl, hb'⟩
  exact ⟨_, rfl, ⟨_, ⟨_, _, rfl, (qp_is h3).2 ⟨zero_val _, Siz.zero _ (fits_le hk).1⟩, _, _, rfl, vp_is.2 rfl, rfl⟩, rfl⟩, hb'⟩
theorem e_int (i : Int) (hi : (decide (-9223372036854775808 ≤ i) && decide (i ≤ 9223372036854775807)) = true) (h1 : cl[c1]? = some (clQ (i : Rat) k1)) (hk : fits 1 k1 = true) : V csz numc okT nt cl w0 (.call 19) [vp (.int .i64 i)] (.val (qp c1)) := by
  simp only [Bool.and_eq_true, decide_eq_true_eq] at hi
  refine ⟨enters_of Tryz.func19 (by kernel_rfl) rfl, fun w vs hb hvs => ?_⟩
  obtain ⟨v1, _, rfl, h4, rfl⟩ := hvs
  have h4 := vp_is.1 h4
  subst h4
  refine (int_q i hi.1 hi.2 w).mono ?_
  rintro e w' ⟨v, rfl, hv, hb'⟩
  exact ⟨v, rfl, (qp_is h1).2 ⟨hv, (siz_int i hi.1 hi.2).le (fits_le hk).1⟩, hb'⟩
theorem e_known (hG : Gr w0) : V csz numc okT nt cl w0 (.call 14) [] (.val (vp (.bool true))) := by
  refine ⟨enters_of Tryz.func14 (by kernel_rfl) rfl, fun w vs hb hvs => ?_⟩
  have hvs : vs = [] := hvs
  subst hvs
  refine (known_any w (hG.below hb hG.size)).mono ?_
  rintro e w' ⟨rfl, hb'⟩
  exact ⟨_, rfl, vp_r _ _ _, hb'⟩
theorem e_number (hG : Gr w0) {l : List UInt8} (h1 : cl[c1]? = some (clV (str l))) (h2 : cl[c2]? = some (clQ (readQ l).1 k2)) {n : Nat} (hl : l.length ≤ n) (hn : Nat.ble n 100000 = true) (hk : fits (n + 1) k2 = true) : V csz numc okT nt cl w0 (.call 76) [op c1] (.val (qp c2)) := by
  have hk := fits_le hk
  have hn := Nat.le_of_ble_eq_true hn
  refine ⟨enters_of Tryz.func76 (by kernel_rfl) rfl, fun w vs hb hvs => ?_⟩
  obtain ⟨v1, _, rfl, h4, rfl⟩ := hvs
  have h4 := (op_is h1).1 h4
  subst h4
  refine (number_any l w (by omega) (hG.below hb hG.size)).mono ?_
  rintro e w' ⟨v, rfl, hv, hb'⟩
  exact ⟨v, rfl, (qp_is h2).2 ⟨hv, (Siz.read l (L := n + 1) (k := n + 1) (by omega) (by omega) (by omega)).le hk.1⟩, hb'⟩
end
end Sym
end Go.Proofs.YtnolcmoecodeaaaGreatDoor

/- What calls on spans do with classes. -/
namespace Go.Proofs.YtnolcmoecodeaaaGreatDoor
open Go Go.RowKit Go.Proofs Lim
namespace Sym
section
variable {csz : List Nat} {numc : List Bool} {okT : List Nat} {nt : Nat} {cl : List Cl} {w0 : World} {w : World} {v : Value} {p1 p2 p3 p4 : Pat} {c d c1 c2 c3 c4 c5 c6 : Nat} {r s t r1 r2 r3 r4 : Rat} {k k1 k2 k3 k4 k5 k6 : Nat}

theorem siz_l1 {a b : Rat} (za : Siz a k) (zb : Siz b k) : Siz (lowOf a [b]) k := lowOf_siz za (by intro x hx; simp at hx; subst hx; exact zb)
theorem siz_h1 {a b : Rat} (za : Siz a k) (zb : Siz b k) : Siz (highOf a [b]) k := highOf_siz za (by intro x hx; simp at hx; subst hx; exact zb)
theorem siz_l3 {a b c d : Rat} (za : Siz a k) (zb : Siz b k) (zc : Siz c k) (zd : Siz d k) : Siz (lowOf a [b, c, d]) k := lowOf_siz za (by intro x hx; simp at hx; rcases hx with rfl | rfl | rfl <;> assumption)
theorem siz_h3 {a b c d : Rat} (za : Siz a k) (zb : Siz b k) (zc : Siz c k) (zd : Siz d k) : Siz (highOf a [b, c, d]) k := highOf_siz za (by intro x hx; simp at hx; rcases hx with rfl | rfl | rfl <;> assumption)
theorem siz_lt {b : Bool} {x y z : Rat} (zx : Siz x k) (zy : Siz y k) (zz : Siz z k) : Siz (lowOf x (turnVals b y z)) k ∧ Siz (highOf x (turnVals b y z)) k := by
  unfold turnVals
  cases b
  · exact ⟨siz_l1 zx zy, siz_h1 zx zy⟩
  · exact ⟨lowOf_siz zx (by intro x hx; simp at hx; rcases hx with rfl | rfl <;> assumption), highOf_siz zx (by intro x hx; simp at hx; rcases hx with rfl | rfl <;> assumption)⟩

theorem e_between (h1 : PQ csz numc okT nt cl w0 p1 r k1) (h2 : PQ csz numc okT nt cl w0 p2 s k2) (h5 : cl[c5]? = some (clQ (lowOf r [s]) k5)) (h6 : cl[c6]? = some (clQ (highOf r [s]) k6)) (hk : fits (k1 + k2) k5 = true) (hk' : fits (k1 + k2) k6 = true) :
    V csz numc okT nt cl w0 (.call 59) [p1, p2] (.val (sp c5 c6)) := by
  have hk := fits_le hk
  have hk' := fits_le hk'
  refine ⟨enters_of Tryz.func59 (by kernel_rfl) rfl, fun w vs hb hvs => ?_⟩
  obtain ⟨v1, _, rfl, h7, v2, _, rfl, h8, rfl⟩ := hvs
  have h7 := h1 _ _ h7
  have h8 := h2 _ _ h8
  refine (between_any v1 v2 r s (k1 + k2) w h7.1 h8.1 (h7.2.le (by omega)) (h8.2.le (by omega)) (by omega)).mono ?_
  rintro e w' ⟨v, rfl, hv, hb'⟩
  exact ⟨v, rfl, (sp_is h5 h6).2 ⟨hv, (siz_l1 (k := k1 + k2) (h7.2.le (by omega)) (h8.2.le (by omega))).le hk.1, (siz_h1 (k := k1 + k2) (h7.2.le (by omega)) (h8.2.le (by omega))).le hk'.1⟩, hb'⟩
theorem e_has {x : Bool} (h1 : PS csz numc okT nt cl w0 p1 r1 k1 r2 k2) (h3 : PQ csz numc okT nt cl w0 p3 r k3) (hk : fits (k1 + k2 + k3) 1000000 = true) (hx : hasQ r1 r2 r = x) :
    V csz numc okT nt cl w0 (.call 60) [p1, p3] (.val (vp (.bool x))) := by
  have hk := fits_le hk
  refine ⟨enters_of Tryz.func60 (by kernel_rfl) rfl, fun w vs hb hvs => ?_⟩
  obtain ⟨v1, _, rfl, h7, v2, _, rfl, h8, rfl⟩ := hvs
  have h7 := h1 _ _ h7
  have h8 := h3 _ _ h8
  refine (has_any v1 v2 r1 r2 r (k1 + k2 + k3) w h7.1 h8.1 (h7.2.1.le (by omega)) (h7.2.2.le (by omega)) (h8.2.le (by omega)) (by omega)).mono ?_
  rintro e w' ⟨rfl, hb'⟩
  rw [hx]
  exact ⟨_, rfl, vp_r _ _ _, hb'⟩
theorem e_inside {x : Bool} (h1 : PS csz numc okT nt cl w0 p1 r1 k1 r2 k2) (h3 : PS csz numc okT nt cl w0 p3 r3 k3 r4 k4) (hk : fits (k1 + k2 + k3 + k4) 1000000 = true) (hx : (hasQ r3 r4 r1 && hasQ r3 r4 r2) = x) :
    V csz numc okT nt cl w0 (.call 81) [p1, p3] (.val (vp (.bool x))) := by
  have hk := fits_le hk
  refine ⟨enters_of Tryz.func81 (by kernel_rfl) rfl, fun w vs hb hvs => ?_⟩
  obtain ⟨v1, _, rfl, h7, v2, _, rfl, h8, rfl⟩ := hvs
  have h7 := h1 _ _ h7
  have h8 := h3 _ _ h8
  refine (inside_any v1 v2 r1 r2 r3 r4 (k1 + k2 + k3 + k4) w h7.1 h8.1 (h7.2.1.le (by omega)) (h7.2.2.le (by omega)) (h8.2.1.le (by omega)) (h8.2.2.le (by omega)) (by omega)).mono ?_
  rintro e w' ⟨rfl, hb'⟩
  rw [hx]
  exact ⟨_, rfl, vp_r _ _ _, hb'⟩
theorem e_at (hG : Gr w0) {m : Nat} (hm : m ≤ 255) (h1 : PS csz numc okT nt cl w0 p1 r1 k1 r2 k2) (h3 : cl[c3]? = some (clV (.int .u8 (m : Int)))) (h5 : cl[c5]? = some (clQ (r1 + (r2 - r1) * partOf m) k5)) (z1 : Siz r1 20) (z2 : Siz r2 20) (hk : fits 70 k5 = true) :
    V csz numc okT nt cl w0 (.call 78) [p1, op c3] (.val (qp c5)) := by
  have hk := fits_le hk
  refine ⟨enters_of Tryz.func78 (by kernel_rfl) rfl, fun w vs hb hvs => ?_⟩
  obtain ⟨v1, _, rfl, h7, v2, _, rfl, h8, rfl⟩ := hvs
  have h7 := h1 _ _ h7
  have h8 := (op_is h3).1 h8
  subst h8
  refine (at_any v1 r1 r2 m w h7.1 hm z1 z2 (hG.below hb hG.size)).mono ?_
  rintro e w' ⟨v, rfl, hv, hb'⟩
  have zk : Siz (partOf m) 2 := (siz_int (m : Int) (by omega) (by omega)).div (siz_int 255 (by decide) (by decide)) (by decide)
  exact ⟨v, rfl, (qp_is h5).2 ⟨hv, (z1.add ((z2.sub z1).mul zk)).le (by omega)⟩, hb'⟩

theorem e_spplus (hG : Gr w0) (h1 : PS csz numc okT nt cl w0 p1 r1 k1 r2 k2) (h3 : PS csz numc okT nt cl w0 p3 r3 k3 r4 k4) (h5 : cl[c5]? = some (clQ (wLow (fun r s => r + s) r1 r2 r3 r4) k5)) (h6 : cl[c6]? = some (clQ (wHigh (fun r s => r + s) r1 r2 r3 r4) k6))
    (hk : fits (2 * (k1 + k2 + k3 + k4) + 1) k5 = true) (hk' : fits (2 * (k1 + k2 + k3 + k4) + 1) k6 = true) : V csz numc okT nt cl w0 (.call 51) [p1, p3] (.val (sp c5 c6)) := by
  have hk := fits_le hk
  have hk' := fits_le hk'
  exact ent_sss (enters_of Tryz.func51 (by kernel_rfl) rfl) h1 h3 h5 h6 (fun z1 z2 z3 z4 =>
    ⟨(siz_l3 (k := 2 * (k1 + k2 + k3 + k4) + 1) ((z1.add z3).le (by omega)) ((z1.add z4).le (by omega)) ((z2.add z3).le (by omega)) ((z2.add z4).le (by omega))).le hk.1,
     (siz_h3 (k := 2 * (k1 + k2 + k3 + k4) + 1) ((z1.add z3).le (by omega)) ((z1.add z4).le (by omega)) ((z2.add z3).le (by omega)) ((z2.add z4).le (by omega))).le hk'.1⟩)
    (fun W v1 v2 hb q1 q2 z1 z2 z3 z4 => spplus_any v1 v2 r1 r2 r3 r4 (k1 + k2 + k3 + k4) W q1 q2 (z1.le (by omega)) (z2.le (by omega)) (z3.le (by omega)) (z4.le (by omega)) (by omega) (hG.below hb hG.size))
theorem e_spminus (hG : Gr w0) (h1 : PS csz numc okT nt cl w0 p1 r1 k1 r2 k2) (h3 : PS csz numc okT nt cl w0 p3 r3 k3 r4 k4) (h5 : cl[c5]? = some (clQ (wLow (fun r s => r - s) r1 r2 r3 r4) k5)) (h6 : cl[c6]? = some (clQ (wHigh (fun r s => r - s) r1 r2 r3 r4) k6))
    (hk : fits (2 * (k1 + k2 + k3 + k4) + 1) k5 = true) (hk' : fits (2 * (k1 + k2 + k3 + k4) + 1) k6 = true) : V csz numc okT nt cl w0 (.call 53) [p1, p3] (.val (sp c5 c6)) := by
  have hk := fits_le hk
  have hk' := fits_le hk'
  exact ent_sss (enters_of Tryz.func53 (by kernel_rfl) rfl) h1 h3 h5 h6 (fun z1 z2 z3 z4 =>
    ⟨(siz_l3 (k := 2 * (k1 + k2 + k3 + k4) + 1) ((z1.sub z3).le (by omega)) ((z1.sub z4).le (by omega)) ((z2.sub z3).le (by omega)) ((z2.sub z4).le (by omega))).le hk.1,
     (siz_h3 (k := 2 * (k1 + k2 + k3 + k4) + 1) ((z1.sub z3).le (by omega)) ((z1.sub z4).le (by omega)) ((z2.sub z3).le (by omega)) ((z2.sub z4).le (by omega))).le hk'.1⟩)
    (fun W v1 v2 hb q1 q2 z1 z2 z3 z4 => spminus_any v1 v2 r1 r2 r3 r4 (k1 + k2 + k3 + k4) W q1 q2 (z1.le (by omega)) (z2.le (by omega)) (z3.le (by omega)) (z4.le (by omega)) (by omega) (hG.below hb hG.size))
theorem e_sptimes (hG : Gr w0) (h1 : PS csz numc okT nt cl w0 p1 r1 k1 r2 k2) (h3 : PS csz numc okT nt cl w0 p3 r3 k3 r4 k4) (h5 : cl[c5]? = some (clQ (wLow (fun r s => r * s) r1 r2 r3 r4) k5)) (h6 : cl[c6]? = some (clQ (wHigh (fun r s => r * s) r1 r2 r3 r4) k6))
    (hk : fits (2 * (k1 + k2 + k3 + k4) + 1) k5 = true) (hk' : fits (2 * (k1 + k2 + k3 + k4) + 1) k6 = true) : V csz numc okT nt cl w0 (.call 55) [p1, p3] (.val (sp c5 c6)) := by
  have hk := fits_le hk
  have hk' := fits_le hk'
  exact ent_sss (enters_of Tryz.func55 (by kernel_rfl) rfl) h1 h3 h5 h6 (fun z1 z2 z3 z4 =>
    ⟨(siz_l3 (k := 2 * (k1 + k2 + k3 + k4) + 1) ((z1.mul z3).le (by omega)) ((z1.mul z4).le (by omega)) ((z2.mul z3).le (by omega)) ((z2.mul z4).le (by omega))).le hk.1,
     (siz_h3 (k := 2 * (k1 + k2 + k3 + k4) + 1) ((z1.mul z3).le (by omega)) ((z1.mul z4).le (by omega)) ((z2.mul z3).le (by omega)) ((z2.mul z4).le (by omega))).le hk'.1⟩)
    (fun W v1 v2 hb q1 q2 z1 z2 z3 z4 => sptimes_any v1 v2 r1 r2 r3 r4 (k1 + k2 + k3 + k4) W q1 q2 (z1.le (by omega)) (z2.le (by omega)) (z3.le (by omega)) (z4.le (by omega)) (by omega) (hG.below hb hG.size))
theorem e_hull (h1 : PS csz numc okT nt cl w0 p1 r1 k1 r2 k2) (h3 : PS csz numc okT nt cl w0 p3 r3 k3 r4 k4) (h5 : cl[c5]? = some (clQ (lowOf r1 [r2, r3, r4]) k5)) (h6 : cl[c6]? = some (clQ (highOf r1 [r2, r3, r4]) k6))
    (hk : fits (k1 + k2 + k3 + k4) k5 = true) (hk' : fits (k1 + k2 + k3 + k4) k6 = true) : V csz numc okT nt cl w0 (.call 57) [p1, p3] (.val (sp c5 c6)) := by
  have hk := fits_le hk
  have hk' := fits_le hk'
  exact ent_sss (enters_of Tryz.func57 (by kernel_rfl) rfl) h1 h3 h5 h6 (fun z1 z2 z3 z4 =>
    ⟨(siz_l3 (k := k1 + k2 + k3 + k4) (z1.le (by omega)) (z2.le (by omega)) (z3.le (by omega)) (z4.le (by omega))).le hk.1, (siz_h3 (k := k1 + k2 + k3 + k4) (z1.le (by omega)) (z2.le (by omega)) (z3.le (by omega)) (z4.le (by omega))).le hk'.1⟩)
    (fun W v1 v2 hb q1 q2 z1 z2 z3 z4 => hull_any v1 v2 r1 r2 r3 r4 (k1 + k2 + k3 + k4) W q1 q2 (z1.le (by omega)) (z2.le (by omega)) (z3.le (by omega)) (z4.le (by omega)) (by omega))
theorem e_square (hG : Gr w0) (h1 : PS csz numc okT nt cl w0 p1 r1 k1 r2 k2) (h5 : cl[c5]? = some (clQ (lowOf (r1 * r1) (turnVals (hasQ r1 r2 0) (r2 * r2) (0 * 0))) k5)) (h6 : cl[c6]? = some (clQ (highOf (r1 * r1) (turnVals (hasQ r1 r2 0) (r2 * r2) (0 * 0))) k6))
    (hk : fits (2 * (k1 + k2)) k5 = true) (hk' : fits (2 * (k1 + k2)) k6 = true) : V csz numc okT nt cl w0 (.call 62) [p1] (.val (sp c5 c6)) := by
  have hk := fits_le hk
  have hk' := fits_le hk'
  refine ent_ss (enters_of Tryz.func62 (by kernel_rfl) rfl) h1 h5 h6 (fun z1 z2 => ?_)
    (fun W v1 hb q1 z1 z2 => square_any v1 r1 r2 (k1 + k2) W q1 (z1.le (by omega)) (z2.le (by omega)) (by omega) (hG.below hb hG.size))
  have k1' := siz_zero_bits k1 z1
  have := siz_lt (k := 2 * (k1 + k2)) (b := hasQ r1 r2 0) ((z1.mul z1).le (by omega)) ((z2.mul z2).le (by omega)) (by simpa using Siz.zero _ (by omega) : Siz (0 * 0) (2 * (k1 + k2)))
  exact ⟨this.1.le hk.1, this.2.le hk'.1⟩
theorem e_spabs (hG : Gr w0) (h1 : PS csz numc okT nt cl w0 p1 r1 k1 r2 k2) (h5 : cl[c5]? = some (clQ (lowOf (absQ r1) (turnVals (hasQ r1 r2 0) (absQ r2) (absQ 0))) k5)) (h6 : cl[c6]? = some (clQ (highOf (absQ r1) (turnVals (hasQ r1 r2 0) (absQ r2) (absQ 0))) k6))
    (hk : fits (2 * (k1 + k2)) k5 = true) (hk' : fits (2 * (k1 + k2)) k6 = true) : V csz numc okT nt cl w0 (.call 64) [p1] (.val (sp c5 c6)) := by
  have hk := fits_le hk
  have hk' := fits_le hk'
  refine ent_ss (enters_of Tryz.func64 (by kernel_rfl) rfl) h1 h5 h6 (fun z1 z2 => ?_)
    (fun W v1 hb q1 z1 z2 => spabs_any v1 r1 r2 (k1 + k2) W q1 (z1.le (by omega)) (z2.le (by omega)) (by omega) (hG.below hb hG.size))
  have k1' := siz_zero_bits k1 z1
  have := siz_lt (k := 2 * (k1 + k2)) (b := hasQ r1 r2 0) ((absQ_siz z1).le (by omega)) ((absQ_siz z2).le (by omega)) ((absQ_siz (Siz.zero (2 * (k1 + k2)) (by omega))))
  exact ⟨this.1.le hk.1, this.2.le hk'.1⟩
theorem inv_siz_of {c d x : Rat} (h0 : hasQ c d 0 = false) (hx : x = c ∨ x = d) (z : Siz x k) : Siz x⁻¹ k := z.inv (num_of_has h0 hx)
theorem e_spover (hG : Gr w0) (h1 : PS csz numc okT nt cl w0 p1 r1 k1 r2 k2) (h3 : PS csz numc okT nt cl w0 p3 r3 k3 r4 k4) (h5 : cl[c5]? = some (clQ (wLow (fun r s => r * s⁻¹) r1 r2 r3 r4) k5)) (h6 : cl[c6]? = some (clQ (wHigh (fun r s => r * s⁻¹) r1 r2 r3 r4) k6))
    (hk : fits (2 * (k1 + k2 + k3 + k4)) k5 = true) (hk' : fits (2 * (k1 + k2 + k3 + k4)) k6 = true) (h0 : hasQ r3 r4 0 = false) : V csz numc okT nt cl w0 (.call 68) [p1, p3] (.tup [sp c5 c6, vp (.int .i64 0)]) := by
  have hk := fits_le hk
  have hk' := fits_le hk'
  refine ⟨enters_of Tryz.func68 (by kernel_rfl) rfl, fun w vs hb hvs => ?_⟩
  obtain ⟨v1, _, rfl, h7, v2, _, rfl, h8, rfl⟩ := hvs
  obtain ⟨q1, z1, z2⟩ := h1 _ _ h7
  obtain ⟨q2, z3, z4⟩ := h3 _ _ h8
  have i3 := inv_siz_of h0 (.inl rfl) z3
  have i4 := inv_siz_of h0 (.inr rfl) z4
  refine (spover_any v1 v2 r1 r2 r3 r4 (k1 + k2 + k3 + k4) w q1 q2 h0 (z1.le (by omega)) (z2.le (by omega)) (z3.le (by omega)) (z4.le (by omega)) (by omega) (hG.below hb hG.size)).mono ?_
  rintro e w' ⟨v, rfl, hv, hb'⟩
  exact ⟨_, rfl, ⟨_, ⟨_, _, rfl, (sp_is h5 h6).2 ⟨hv, (siz_l3 (k := 2 * (k1 + k2 + k3 + k4)) ((z1.mul i3).le (by omega)) ((z1.mul i4).le (by omega)) ((z2.mul i3).le (by omega)) ((z2.mul i4).le (by omega))).le hk.1,
    (siz_h3 (k := 2 * (k1 + k2 + k3 + k4)) ((z1.mul i3).le (by omega)) ((z1.mul i4).le (by omega)) ((z2.mul i3).le (by omega)) ((z2.mul i4).le (by omega))).le hk'.1⟩, _, _, rfl, vp_is.2 rfl, rfl⟩, rfl⟩, hb'⟩
theorem e_spover0 (h1 : PS csz numc okT nt cl w0 p1 r1 k1 r2 k2) (h3 : PS csz numc okT nt cl w0 p3 r3 k3 r4 k4) (h5 : cl[c5]? = some (clQ 0 k5)) (hk : fits (k3 + k4 + 1) k5 = true) (h0 : hasQ r3 r4 0 = true) :
    V csz numc okT nt cl w0 (.call 68) [p1, p3] (.tup [sp c5 c5, vp (.int .i64 10)]) := by
  have hk := fits_le hk
  refine ⟨enters_of Tryz.func68 (by kernel_rfl) rfl, fun w vs hb hvs => ?_⟩
  obtain ⟨v1, _, rfl, h7, v2, _, rfl, h8, rfl⟩ := hvs
  obtain ⟨q1, z1, z2⟩ := h1 _ _ h7
  obtain ⟨q2, z3, z4⟩ := h3 _ _ h8
  refine (spover_zero v1 v2 r1 r2 r3 r4 (k3 + k4) w q1 q2 h0 (z3.le (by omega)) (z4.le (by omega)) (by omega)).mono ?_
  rintro e w' ⟨rfl, hb'⟩
  exact ⟨_, rfl, ⟨_, ⟨_, _, rfl, (sp_is h5 h5).2 ⟨zspan_is _, Siz.zero _ (by omega), Siz.zero _ (by omega)⟩, _, _, rfl, vp_is.2 rfl, rfl⟩, rfl⟩, hb'⟩

/-- The texts of a list of classes. -/
def TextsAre (cl : List Cl) : List Grp → List (List UInt8) → Prop
  | [], ls => ls = []
  | .cls c 1 :: gs, ls => ∃ l ls', ls = l :: ls' ∧ cl[c]? = some (clV (str l)) ∧ TextsAre cl gs ls'
  | _, _ => False
theorem texts_vals {gs : List Grp} {ls : List (List UInt8)} (h : TextsAre cl gs ls) {vs : List Value} (hv : GrpsAre (mkC csz numc okT nt cl w0) w gs vs) : vs = ls.map str := by
  induction gs generalizing ls vs with
  | nil => rw [show ls = [] from h]; exact hv
  | cons g gs ih =>
    match g, h with
    | .cls c 1, ⟨l, ls', h1, h2, h3⟩ =>
      obtain ⟨xs, ys, rfl, ⟨f, hE, rfl⟩, hy⟩ := hv
      simp only [mkC, h2] at hE
      have hE : f 0 = str l := hE
      rw [h1, ih h3 hy]
      simp [List.range_succ, hE]
theorem e_long {gs : List Grp} {ls : List (List UInt8)} {n : Nat} {x : Bool} (h1 : TextsAre cl gs ls) (hn : n = ls.length) (hl : Nat.ble ls.length 1000 = true) (hx : (ls.any (fun x => decide (120 < x.length))) = x) : V csz numc okT nt cl w0 (.call 27) [.slc 9 n gs] (.val (vp (.bool x))) := by
  refine ⟨enters_of Tryz.func27 (by kernel_rfl) rfl, fun w vs hb hvs => ?_⟩
  obtain ⟨v1, _, rfl, ⟨k, us, rfl, hk, hus⟩, rfl⟩ := hvs
  have hus := texts_vals h1 hus
  subst hus hn
  have hl := Nat.le_of_ble_eq_true hl
  refine (long_any k ls w (fun i hi => ?_) (by omega)).mono ?_
  · simp [World.cell?, hk, hi]
  · rintro e w' ⟨rfl, rfl⟩
    rw [hx]
    exact ⟨_, rfl, vp_r _ _ _, Below.refl _ _⟩

/-- A slice of one number. -/
theorem qsl_one {v : Value} (h : cl[c]? = some (clQ r k)) (hv : (Pat.slc 26 1 [.cls c 4]).is (mkC csz numc okT nt cl w0) w v) : QSl w v [r] ∧ Siz r k := by
  obtain ⟨b, us, rfl, hb, ⟨xs, ys, rfl, ⟨f, hE, rfl⟩, hy⟩⟩ := hv
  rw [show ys = [] from hy] at hb
  simp only [mkC, h] at hE
  obtain ⟨s, a, d, p, e⟩ := hE.1.form
  refine ⟨⟨_, 1, rfl, Nat.le_refl _, by decide, fun _ => ⟨b, 0, rfl, fun i hi => ?_⟩⟩, hE.2⟩
  have : i = 0 := by simpa using hi
  subst this
  injection e with e
  have g0 : f 0 = .bool s := by have := congrArg (fun x => x[0]?) e; simpa using this
  have g1 : f 1 = u a := by have := congrArg (fun x => x[1]?) e; simpa using this
  have g2 : f 2 = u d := by have := congrArg (fun x => x[2]?) e; simpa using this
  have g3 : f 3 = .pointer p := by have := congrArg (fun x => x[3]?) e; simpa using this
  refine ⟨.agg #[.bool s, u a, u d, .pointer p], ⟨s, a, d, p, rfl, ?_, ?_, ?_, ?_⟩, by simpa [g0, g1, g2, g3] using hE.1⟩
  · simp [World.cell?, hb, cells4, g0]
  · simp [World.cell?, hb, cells4, g1]
  · simp [World.cell?, hb, cells4, g2]
  · simp [World.cell?, hb, cells4, g3]
theorem e_around1 (h1 : PQ csz numc okT nt cl w0 p1 r k1) (h2 : cl[c2]? = some (clQ s k2)) (h5 : cl[c5]? = some (clQ (lowOf r [s]) k5)) (h6 : cl[c6]? = some (clQ (highOf r [s]) k6)) (hk : fits (k1 + k2) k5 = true) (hk' : fits (k1 + k2) k6 = true) :
    V csz numc okT nt cl w0 (.call 112) [p1, .slc 26 1 [.cls c2 4]] (.val (sp c5 c6)) := by
  have hk := fits_le hk
  have hk' := fits_le hk'
  refine ⟨enters_of Tryz.func112 (by kernel_rfl) rfl, fun w vs hb hvs => ?_⟩
  obtain ⟨v1, _, rfl, h7, v2, _, rfl, h8, rfl⟩ := hvs
  have h7 := h1 _ _ h7
  have h8 := qsl_one h2 h8
  refine (around_any v1 v2 r [s] (k1 + k2) w h7.1 h8.1 (h7.2.le (by omega)) (by intro x hx; simp at hx; subst hx; exact h8.2.le (by omega)) (by omega) (by simp)).mono ?_
  rintro e w' ⟨v, rfl, hv, hb'⟩
  exact ⟨v, rfl, (sp_is h5 h6).2 ⟨hv, (siz_l1 (k := k1 + k2) (h7.2.le (by omega)) (h8.2.le (by omega))).le hk.1, (siz_h1 (k := k1 + k2) (h7.2.le (by omega)) (h8.2.le (by omega))).le hk'.1⟩, hb'⟩
theorem e_sorted (h1 : PS csz numc okT nt cl w0 p1 r k1 s k2) (h5 : cl[c5]? = some (clQ (lowOf r [s]) k5)) (h6 : cl[c6]? = some (clQ (highOf r [s]) k6)) (hk : fits (k1 + k2) k5 = true) (hk' : fits (k1 + k2) k6 = true) :
    V csz numc okT nt cl w0 (.call 115) [p1] (.val (sp c5 c6)) := by
  have hk := fits_le hk
  have hk' := fits_le hk'
  exact ent_ss (enters_of Tryz.func115 (by kernel_rfl) rfl) h1 h5 h6 (fun z1 z2 => ⟨(siz_l1 (k := k1 + k2) (z1.le (by omega)) (z2.le (by omega))).le hk.1, (siz_h1 (k := k1 + k2) (z1.le (by omega)) (z2.le (by omega))).le hk'.1⟩)
    (fun W v hb q z1 z2 => sorted_any v r s (k1 + k2) W q (z1.le (by omega)) (z2.le (by omega)) (by omega))
theorem e_recip (h1 : PQ csz numc okT nt cl w0 p1 r k1) (h2 : cl[c2]? = some (clQ r⁻¹ k2)) (hk : fits k1 k2 = true) (h0 : r ≠ 0) : V csz numc okT nt cl w0 (.call 87) [p1] (.val (qp c2)) := by
  have hn : r.num ≠ 0 := fun e => h0 (num_zero.1 e)
  exact ent_qq (enters_of Tryz.func87 (by kernel_rfl) rfl) h1 h2 (fun z => (z.inv hn).le (fits_le hk).1) (fun W v _ q _ => recip_q v r W q hn)

theorem forall_nil {P : Ent → Prop} : ∀ t ∈ ([] : List Ent), P t := fun t h => by simp at h
theorem forall_cons {P : Ent → Prop} {a : Ent} {l : List Ent} (h : P a) (k : ∀ t ∈ l, P t) : ∀ t ∈ a :: l, P t := fun t ht => by
  rcases List.mem_cons.1 ht with rfl | ht
  · exact h
  · exact k t ht
theorem oks_nil {okT : List Nat} {B : Nat} : ∀ x ∈ ([] : List Cl), x.Ok okT B := fun t h => by simp at h
theorem oks_cons {okT : List Nat} {B : Nat} {a : Cl} {l : List Cl} (h : a.Ok okT B) (k : ∀ t ∈ l, t.Ok okT B) : ∀ t ∈ a :: l, t.Ok okT B := fun t ht => by
  rcases List.mem_cons.1 ht with rfl | ht
  · exact h
  · exact k t ht
theorem cmp3 (r s : Rat) : cmpQ r s = -1 ∨ cmpQ r s = 0 ∨ cmpQ r s = 1 := by
  unfold cmpQ
  split
  · exact .inl rfl
  · split
    · exact .inr (.inr rfl)
    · exact .inr (.inl rfl)
theorem sign3 (r : Rat) : sign r = -1 ∨ sign r = 0 ∨ sign r = 1 := by
  unfold sign
  split
  · exact .inr (.inl rfl)
  · split
    · exact .inl rfl
    · exact .inr (.inr rfl)
def bodyOf (fn : Func) : Code := match fn.body with | some c => c | none => .skip
theorem val_of {C : Ctx} {w : World} {x v : Value} (h : RPat.is C w (.val (vp x)) v) : v = x := by
  have h : [v] = [x] := h
  simpa using h
/-- **A call by a run**, with the classes at hand. -/
theorem run_mk {T : List Ent} (hC : (mkC csz numc okT nt cl w0).Ok) (hT : ∀ t ∈ T, t.Valid (mkC csz numc okT nt cl w0)) (f : FuncId) (fn : Func) (args : List Pat) (res : RPat) (n : Nat) (hf : Tryz.prog.funcs[f]? = some fn) (hb : fn.body = some (bodyOf fn)) (hnt : fn.ntmps = nt)
    (hlen : Nat.ble args.length nt = true) (hrun : runB ⟨Tryz.prog, csz, numc, okT, nt⟩ T n (bodyOf fn) fn.results.toList args res = true) (vs : List Value) (hvs : PatsAre (mkC csz numc okT nt cl w0) w0 args vs) :
    Calls Tryz.prog f vs.toArray w0 (fun e w' => ∃ v, e = .returned v ∧ res.is (mkC csz numc okT nt cl w0) w' v ∧ Below w0.heap.size w0 w') :=
  calls_run hC hT hf hb rfl hnt (Nat.le_of_ble_eq_true hlen) hrun vs hvs
end
end Sym
end Go.Proofs.YtnolcmoecodeaaaGreatDoor

/- By runs: the quotient that a law takes; Span.Meet; Span.Out. -/
namespace Go.Proofs.YtnolcmoecodeaaaGreatDoor
open Go Go.RowKit Go.Proofs Lim
namespace Sym

noncomputable def cl_quot_1 (r : Rat) (s : Rat) : List Cl := [
  clQ (r) 100000,
  clQ (s) 100000,
  clQ ((r) / (s)) 200000]

def t_quot_1 : List Ent := [
  ⟨.call 38, [qp 0, qp 1], (.tup [qp 2, vp (.int .i64 0)])⟩]

set_option maxRecDepth 100000 in
theorem quot_any (v1 v2 : Value) (r s : Rat) (w : World) (hG : Gr w) (q1 : IsQ w v1 r) (q2 : IsQ w v2 s) (z1 : Siz r 100000) (z2 : Siz s 100000) (h0 : decide ((s) = 0) = false) :
    Calls Tryz.prog 80 #[v1, v2] w (QNew w (r / s)) := by
  have hC : (mkC [4, 4, 4] [true, true, true] [26, 66, 64, 104] 14 (cl_quot_1 r s) w).Ok := mkC_ok (oks_cons (clQ_ok (by decide) _ _) <| oks_cons (clQ_ok (by decide) _ _) <| oks_cons (clQ_ok (by decide) _ _) <| oks_nil) rfl rfl
  have hT : ∀ t ∈ t_quot_1, t.Valid (mkC [4, 4, 4] [true, true, true] [26, 66, 64, 104] 14 (cl_quot_1 r s) w) :=
    forall_cons (e_over hG (pq rfl) (pq rfl) rfl rfl (of_decide_eq_false h0)) <|
    forall_nil
  refine Calls.mono (run_mk hC hT 80 Tryz.f80 [qp 0, qp 1] (.val (qp 2)) 200 Tryz.func80 rfl rfl rfl (by kernel_rfl) [v1, v2] ⟨v1, _, rfl, (qp_is rfl).2 ⟨q1, z1⟩, v2, _, rfl, (qp_is rfl).2 ⟨q2, z2⟩, rfl⟩) ?_
  rintro e w' ⟨v, rfl, hv, hb⟩; exact ⟨v, rfl, ((qp_is rfl).1 hv).1, hb⟩

theorem meet_post {csz : List Nat} {numc : List Bool} {okT : List Nat} {nt : Nat} {cl : List Cl} {w0 : World} {w w' : World} {v : Value} {c5 c6 k5 k6 : Nat} {lo hi : Rat} {x : Value} (hv : RPat.is (mkC csz numc okT nt cl w0) w' (.tup [sp c5 c6, vp x]) v) (hb : Below w.heap.size w w')
    (h5 : cl[c5]? = some (clQ lo k5)) (h6 : cl[c6]? = some (clQ hi k6)) : ∃ v', Ending.returned v = .returned (.tuple #[v', x]) ∧ IsS w' v' lo hi ∧ Below w.heap.size w w' := by
  obtain ⟨vs, ⟨v1, _, rfl, h1, v2, _, rfl, h2, rfl⟩, rfl⟩ := hv
  obtain rfl := vp_is.1 h2
  exact ⟨v1, rfl, ((sp_is h5 h6).1 h1).1, hb⟩
def zs : Pat := .agg [.lit (.bool false), .lit (.int .u64 0), .lit (.int .u64 0), .lit (.pointer none), .lit (.bool false), .lit (.int .u64 0), .lit (.int .u64 0), .lit (.pointer none)]
theorem zs_is {C : Ctx} {w : World} {v : Value} (h : zs.is C w v) : v = zspan := by
  obtain ⟨vs, ⟨_, _, rfl, rfl, _, _, rfl, rfl, _, _, rfl, rfl, _, _, rfl, rfl, _, _, rfl, rfl, _, _, rfl, rfl, _, _, rfl, rfl, _, _, rfl, rfl, rfl⟩, rfl⟩ := h
  rfl
theorem meet_post0 {C : Ctx} {w w' : World} {v : Value} {x : Value} (hv : RPat.is C w' (.tup [zs, vp x]) v) (hb : Below w.heap.size w w') : ∃ v', Ending.returned v = .returned (.tuple #[v', x]) ∧ IsS w' v' 0 0 ∧ Below w.heap.size w w' := by
  obtain ⟨vs, ⟨v1, _, rfl, h1, v2, _, rfl, h2, rfl⟩, rfl⟩ := hv
  obtain rfl := vp_is.1 h2
  obtain rfl := zs_is h1
  exact ⟨_, rfl, zspan_is _, hb⟩

noncomputable def cl_meet_1 (a : Rat) (b : Rat) (c : Rat) (d : Rat) : List Cl := [
  clQ (a) 10000,
  clQ (b) 10000,
  clQ (c) 10000,
  clQ (d) 10000,
  clQ (lowOf (a) [b]) 20000,
  clQ (highOf (a) [b]) 20000,
  clQ (lowOf (c) [d]) 20000,
  clQ (highOf (c) [d]) 20000,
  clQ (lowOf (lowOf (a) [b]) [lowOf (c) [d]]) 40000,
  clQ (highOf (lowOf (a) [b]) [lowOf (c) [d]]) 40000,
  clQ (lowOf (highOf (a) [b]) [highOf (c) [d]]) 40000,
  clQ (highOf (highOf (a) [b]) [highOf (c) [d]]) 40000]

def t_meet_1 : List Ent := [
  ⟨.call 115, [sp 0 1], (.val (sp 4 5))⟩,
  ⟨.call 115, [sp 2 3], (.val (sp 6 7))⟩,
  ⟨.call 112, [qp 4, .slc 26 1 [.cls 6 4]], (.val (sp 8 9))⟩,
  ⟨.call 112, [qp 5, .slc 26 1 [.cls 7 4]], (.val (sp 10 11))⟩,
  ⟨.call 35, [qp 9, qp 10], (.val (vp (.int .i64 (-1))))⟩]

noncomputable def cl_meet_2 (a : Rat) (b : Rat) (c : Rat) (d : Rat) : List Cl := [
  clQ (a) 10000,
  clQ (b) 10000,
  clQ (c) 10000,
  clQ (d) 10000,
  clQ (lowOf (a) [b]) 20000,
  clQ (highOf (a) [b]) 20000,
  clQ (lowOf (c) [d]) 20000,
  clQ (highOf (c) [d]) 20000,
  clQ (lowOf (lowOf (a) [b]) [lowOf (c) [d]]) 40000,
  clQ (highOf (lowOf (a) [b]) [lowOf (c) [d]]) 40000,
  clQ (lowOf (highOf (a) [b]) [highOf (c) [d]]) 40000,
  clQ (highOf (highOf (a) [b]) [highOf (c) [d]]) 40000]

def t_meet_2 : List Ent := [
  ⟨.call 115, [sp 0 1], (.val (sp 4 5))⟩,
  ⟨.call 115, [sp 2 3], (.val (sp 6 7))⟩,
  ⟨.call 112, [qp 4, .slc 26 1 [.cls 6 4]], (.val (sp 8 9))⟩,
  ⟨.call 112, [qp 5, .slc 26 1 [.cls 7 4]], (.val (sp 10 11))⟩,
  ⟨.call 35, [qp 9, qp 10], (.val (vp (.int .i64 0)))⟩]

set_option maxRecDepth 100000 in
theorem meet_ok (v1 v2 : Value) (a b c d : Rat) (w : World) (hG : Gr w) (q1 : IsS w v1 a b) (q2 : IsS w v2 c d) (z1 : Siz a 10000) (z2 : Siz b 10000) (z3 : Siz c 10000) (z4 : Siz d 10000) (hx : cmpQ (highOf (lowOf a [b]) [lowOf c [d]]) (lowOf (highOf a [b]) [highOf c [d]]) ≠ 1) :
    Calls Tryz.prog 66 #[v1, v2] w (fun e w' => ∃ v, e = .returned (.tuple #[v, .bool true]) ∧ IsS w' v (highOf (lowOf a [b]) [lowOf c [d]]) (lowOf (highOf a [b]) [highOf c [d]]) ∧ Below w.heap.size w w') := by
  rcases cmp3 (highOf (lowOf (a) [b]) [lowOf (c) [d]]) (lowOf (highOf (a) [b]) [highOf (c) [d]]) with h1 | h1 | h1
  · skip
    have hC : (mkC [4, 4, 4, 4, 4, 4, 4, 4, 4, 4, 4, 4] [true, true, true, true, true, true, true, true, true, true, true, true] [26, 66, 64, 104] 34 (cl_meet_1 a b c d) w).Ok := mkC_ok (oks_cons (clQ_ok (by decide) _ _) <| oks_cons (clQ_ok (by decide) _ _) <| oks_cons (clQ_ok (by decide) _ _) <| oks_cons (clQ_ok (by decide) _ _) <| oks_cons (clQ_ok (by decide) _ _) <| oks_cons (clQ_ok (by decide) _ _) <| oks_cons (clQ_ok (by decide) _ _) <| oks_cons (clQ_ok (by decide) _ _) <| oks_cons (clQ_ok (by decide) _ _) <| oks_cons (clQ_ok (by decide) _ _) <| oks_cons (clQ_ok (by decide) _ _) <| oks_cons (clQ_ok (by decide) _ _) <| oks_nil) rfl rfl
    have hT : ∀ t ∈ t_meet_1, t.Valid (mkC [4, 4, 4, 4, 4, 4, 4, 4, 4, 4, 4, 4] [true, true, true, true, true, true, true, true, true, true, true, true] [26, 66, 64, 104] 34 (cl_meet_1 a b c d) w) :=
      forall_cons (e_sorted (ps rfl rfl) rfl rfl rfl rfl) <|
      forall_cons (e_sorted (ps rfl rfl) rfl rfl rfl rfl) <|
      forall_cons (e_around1 (pq rfl) rfl rfl rfl rfl rfl) <|
      forall_cons (e_around1 (pq rfl) rfl rfl rfl rfl rfl) <|
      forall_cons (e_cmp (pq rfl) (pq rfl) rfl h1) <|
      forall_nil
    refine Calls.mono (run_mk hC hT 66 Tryz.f66 [sp 0 1, sp 2 3] (.tup [sp 9 10, vp (.bool true)]) 200 Tryz.func66 rfl rfl rfl (by kernel_rfl) [v1, v2] ⟨v1, _, rfl, (sp_is rfl rfl).2 ⟨q1, z1, z2⟩, v2, _, rfl, (sp_is rfl rfl).2 ⟨q2, z3, z4⟩, rfl⟩) ?_
    rintro e w' ⟨v, rfl, hv, hb⟩; exact meet_post hv hb rfl rfl
  · skip
    have hC : (mkC [4, 4, 4, 4, 4, 4, 4, 4, 4, 4, 4, 4] [true, true, true, true, true, true, true, true, true, true, true, true] [26, 66, 64, 104] 34 (cl_meet_2 a b c d) w).Ok := mkC_ok (oks_cons (clQ_ok (by decide) _ _) <| oks_cons (clQ_ok (by decide) _ _) <| oks_cons (clQ_ok (by decide) _ _) <| oks_cons (clQ_ok (by decide) _ _) <| oks_cons (clQ_ok (by decide) _ _) <| oks_cons (clQ_ok (by decide) _ _) <| oks_cons (clQ_ok (by decide) _ _) <| oks_cons (clQ_ok (by decide) _ _) <| oks_cons (clQ_ok (by decide) _ _) <| oks_cons (clQ_ok (by decide) _ _) <| oks_cons (clQ_ok (by decide) _ _) <| oks_cons (clQ_ok (by decide) _ _) <| oks_nil) rfl rfl
    have hT : ∀ t ∈ t_meet_2, t.Valid (mkC [4, 4, 4, 4, 4, 4, 4, 4, 4, 4, 4, 4] [true, true, true, true, true, true, true, true, true, true, true, true] [26, 66, 64, 104] 34 (cl_meet_2 a b c d) w) :=
      forall_cons (e_sorted (ps rfl rfl) rfl rfl rfl rfl) <|
      forall_cons (e_sorted (ps rfl rfl) rfl rfl rfl rfl) <|
      forall_cons (e_around1 (pq rfl) rfl rfl rfl rfl rfl) <|
      forall_cons (e_around1 (pq rfl) rfl rfl rfl rfl rfl) <|
      forall_cons (e_cmp (pq rfl) (pq rfl) rfl h1) <|
      forall_nil
    refine Calls.mono (run_mk hC hT 66 Tryz.f66 [sp 0 1, sp 2 3] (.tup [sp 9 10, vp (.bool true)]) 200 Tryz.func66 rfl rfl rfl (by kernel_rfl) [v1, v2] ⟨v1, _, rfl, (sp_is rfl rfl).2 ⟨q1, z1, z2⟩, v2, _, rfl, (sp_is rfl rfl).2 ⟨q2, z3, z4⟩, rfl⟩) ?_
    rintro e w' ⟨v, rfl, hv, hb⟩; exact meet_post hv hb rfl rfl
  · skip
    exact absurd h1 hx

noncomputable def cl_meetno_1 (a : Rat) (b : Rat) (c : Rat) (d : Rat) : List Cl := [
  clQ (a) 10000,
  clQ (b) 10000,
  clQ (c) 10000,
  clQ (d) 10000,
  clQ (lowOf (a) [b]) 20000,
  clQ (highOf (a) [b]) 20000,
  clQ (lowOf (c) [d]) 20000,
  clQ (highOf (c) [d]) 20000,
  clQ (lowOf (lowOf (a) [b]) [lowOf (c) [d]]) 40000,
  clQ (highOf (lowOf (a) [b]) [lowOf (c) [d]]) 40000,
  clQ (lowOf (highOf (a) [b]) [highOf (c) [d]]) 40000,
  clQ (highOf (highOf (a) [b]) [highOf (c) [d]]) 40000]

def t_meetno_1 : List Ent := [
  ⟨.call 115, [sp 0 1], (.val (sp 4 5))⟩,
  ⟨.call 115, [sp 2 3], (.val (sp 6 7))⟩,
  ⟨.call 112, [qp 4, .slc 26 1 [.cls 6 4]], (.val (sp 8 9))⟩,
  ⟨.call 112, [qp 5, .slc 26 1 [.cls 7 4]], (.val (sp 10 11))⟩,
  ⟨.call 35, [qp 9, qp 10], (.val (vp (.int .i64 1)))⟩]

set_option maxRecDepth 100000 in
theorem meet_no (v1 v2 : Value) (a b c d : Rat) (w : World) (hG : Gr w) (q1 : IsS w v1 a b) (q2 : IsS w v2 c d) (z1 : Siz a 10000) (z2 : Siz b 10000) (z3 : Siz c 10000) (z4 : Siz d 10000) (hx : cmpQ (highOf (lowOf a [b]) [lowOf c [d]]) (lowOf (highOf a [b]) [highOf c [d]]) = 1) :
    Calls Tryz.prog 66 #[v1, v2] w (fun e w' => ∃ v, e = .returned (.tuple #[v, .bool false]) ∧ IsS w' v 0 0 ∧ Below w.heap.size w w') := by
  have hC : (mkC [4, 4, 4, 4, 4, 4, 4, 4, 4, 4, 4, 4] [true, true, true, true, true, true, true, true, true, true, true, true] [26, 66, 64, 104] 34 (cl_meetno_1 a b c d) w).Ok := mkC_ok (oks_cons (clQ_ok (by decide) _ _) <| oks_cons (clQ_ok (by decide) _ _) <| oks_cons (clQ_ok (by decide) _ _) <| oks_cons (clQ_ok (by decide) _ _) <| oks_cons (clQ_ok (by decide) _ _) <| oks_cons (clQ_ok (by decide) _ _) <| oks_cons (clQ_ok (by decide) _ _) <| oks_cons (clQ_ok (by decide) _ _) <| oks_cons (clQ_ok (by decide) _ _) <| oks_cons (clQ_ok (by decide) _ _) <| oks_cons (clQ_ok (by decide) _ _) <| oks_cons (clQ_ok (by decide) _ _) <| oks_nil) rfl rfl
  have hT : ∀ t ∈ t_meetno_1, t.Valid (mkC [4, 4, 4, 4, 4, 4, 4, 4, 4, 4, 4, 4] [true, true, true, true, true, true, true, true, true, true, true, true] [26, 66, 64, 104] 34 (cl_meetno_1 a b c d) w) :=
    forall_cons (e_sorted (ps rfl rfl) rfl rfl rfl rfl) <|
    forall_cons (e_sorted (ps rfl rfl) rfl rfl rfl rfl) <|
    forall_cons (e_around1 (pq rfl) rfl rfl rfl rfl rfl) <|
    forall_cons (e_around1 (pq rfl) rfl rfl rfl rfl rfl) <|
    forall_cons (e_cmp (pq rfl) (pq rfl) rfl hx) <|
    forall_nil
  refine Calls.mono (run_mk hC hT 66 Tryz.f66 [sp 0 1, sp 2 3] (.tup [.agg [.lit (.bool false), .lit (.int .u64 0), .lit (.int .u64 0), .lit (.pointer none), .lit (.bool false), .lit (.int .u64 0), .lit (.int .u64 0), .lit (.pointer none)], vp (.bool false)]) 200 Tryz.func66 rfl rfl rfl (by kernel_rfl) [v1, v2] ⟨v1, _, rfl, (sp_is rfl rfl).2 ⟨q1, z1, z2⟩, v2, _, rfl, (sp_is rfl rfl).2 ⟨q2, z3, z4⟩, rfl⟩) ?_
  rintro e w' ⟨v, rfl, hv, hb⟩; exact meet_post0 hv hb

noncomputable def cl_outok_1 (a : Rat) (b : Rat) (g : Rat) : List Cl := [
  clQ (a) 10000,
  clQ (b) 10000,
  clQ (g) 10000,
  clQ (lowOf (a) [b]) 20000,
  clQ (highOf (a) [b]) 20000,
  clQ ((g)⁻¹) 10000,
  clQ ((lowOf (a) [b]) * ((g)⁻¹)) 30000,
  clQ (((Rat.floor ((lowOf (a) [b]) * ((g)⁻¹)) : Int) : Rat)) 30002,
  clQ ((highOf (a) [b]) * ((g)⁻¹)) 30000,
  clQ (((Rat.ceil ((highOf (a) [b]) * ((g)⁻¹)) : Int) : Rat)) 30002,
  clQ ((((Rat.floor ((lowOf (a) [b]) * ((g)⁻¹)) : Int) : Rat)) * (g)) 40002,
  clQ ((((Rat.ceil ((highOf (a) [b]) * ((g)⁻¹)) : Int) : Rat)) * (g)) 40002]

def t_outok_1 : List Ent := [
  ⟨.call 23, [qp 2], (.val (vp (.int .i64 1)))⟩,
  ⟨.call 115, [sp 0 1], (.val (sp 3 4))⟩,
  ⟨.call 87, [qp 2], (.val (qp 5))⟩,
  ⟨.call 33, [qp 3, qp 5], (.val (qp 6))⟩,
  ⟨.call 45, [qp 6], (.val (qp 7))⟩,
  ⟨.call 33, [qp 4, qp 5], (.val (qp 8))⟩,
  ⟨.call 47, [qp 8], (.val (qp 9))⟩,
  ⟨.call 33, [qp 7, qp 2], (.val (qp 10))⟩,
  ⟨.call 33, [qp 9, qp 2], (.val (qp 11))⟩]

set_option maxRecDepth 100000 in
theorem out_ok (v1 v2 : Value) (a b g : Rat) (w : World) (hG : Gr w) (q1 : IsS w v1 a b) (q2 : IsQ w v2 g) (z1 : Siz a 10000) (z2 : Siz b 10000) (z3 : Siz g 10000) (hx : sign g = 1) (h0 : decide (g = 0) = false) :
    Calls Tryz.prog 70 #[v1, v2] w (fun e w' => ∃ v, e = .returned (.tuple #[v, .int .i64 0]) ∧ IsS w' v (((Rat.floor (lowOf a [b] * g⁻¹) : Int) : Rat) * g) (((Rat.ceil (highOf a [b] * g⁻¹) : Int) : Rat) * g) ∧ Below w.heap.size w w') := by
  have hC : (mkC [4, 4, 4, 4, 4, 4, 4, 4, 4, 4, 4, 4] [true, true, true, true, true, true, true, true, true, true, true, true] [26, 66, 64, 104] 34 (cl_outok_1 a b g) w).Ok := mkC_ok (oks_cons (clQ_ok (by decide) _ _) <| oks_cons (clQ_ok (by decide) _ _) <| oks_cons (clQ_ok (by decide) _ _) <| oks_cons (clQ_ok (by decide) _ _) <| oks_cons (clQ_ok (by decide) _ _) <| oks_cons (clQ_ok (by decide) _ _) <| oks_cons (clQ_ok (by decide) _ _) <| oks_cons (clQ_ok (by decide) _ _) <| oks_cons (clQ_ok (by decide) _ _) <| oks_cons (clQ_ok (by decide) _ _) <| oks_cons (clQ_ok (by decide) _ _) <| oks_cons (clQ_ok (by decide) _ _) <| oks_nil) rfl rfl
  have hT : ∀ t ∈ t_outok_1, t.Valid (mkC [4, 4, 4, 4, 4, 4, 4, 4, 4, 4, 4, 4] [true, true, true, true, true, true, true, true, true, true, true, true] [26, 66, 64, 104] 34 (cl_outok_1 a b g) w) :=
    forall_cons (e_sign (pq rfl) hx) <|
    forall_cons (e_sorted (ps rfl rfl) rfl rfl rfl rfl) <|
    forall_cons (e_recip (pq rfl) rfl rfl (of_decide_eq_false h0)) <|
    forall_cons (e_times hG (pq rfl) (pq rfl) rfl rfl) <|
    forall_cons (e_floor hG (pq rfl) rfl rfl rfl) <|
    forall_cons (e_times hG (pq rfl) (pq rfl) rfl rfl) <|
    forall_cons (e_ceil hG (pq rfl) rfl rfl rfl) <|
    forall_cons (e_times hG (pq rfl) (pq rfl) rfl rfl) <|
    forall_cons (e_times hG (pq rfl) (pq rfl) rfl rfl) <|
    forall_nil
  refine Calls.mono (run_mk hC hT 70 Tryz.f70 [sp 0 1, qp 2] (.tup [sp 10 11, vp (.int .i64 0)]) 200 Tryz.func70 rfl rfl rfl (by kernel_rfl) [v1, v2] ⟨v1, _, rfl, (sp_is rfl rfl).2 ⟨q1, z1, z2⟩, v2, _, rfl, (qp_is rfl).2 ⟨q2, z3⟩, rfl⟩) ?_
  rintro e w' ⟨v, rfl, hv, hb⟩; exact meet_post hv hb rfl rfl

noncomputable def cl_outno_1 (a : Rat) (b : Rat) (g : Rat) : List Cl := [
  clQ (a) 10000,
  clQ (b) 10000,
  clQ (g) 10000]

def t_outno_1 : List Ent := [
  ⟨.call 23, [qp 2], (.val (vp (.int .i64 (-1))))⟩]

noncomputable def cl_outno_2 (a : Rat) (b : Rat) (g : Rat) : List Cl := [
  clQ (a) 10000,
  clQ (b) 10000,
  clQ (g) 10000]

def t_outno_2 : List Ent := [
  ⟨.call 23, [qp 2], (.val (vp (.int .i64 0)))⟩]

set_option maxRecDepth 100000 in
theorem out_no (v1 v2 : Value) (a b g : Rat) (w : World) (hG : Gr w) (q1 : IsS w v1 a b) (q2 : IsQ w v2 g) (z1 : Siz a 10000) (z2 : Siz b 10000) (z3 : Siz g 10000) (hx : sign g ≠ 1) :
    Calls Tryz.prog 70 #[v1, v2] w (fun e w' => ∃ v, e = .returned (.tuple #[v, .int .i64 3]) ∧ IsS w' v 0 0 ∧ Below w.heap.size w w') := by
  rcases sign3 (g) with h1 | h1 | h1
  · skip
    have hC : (mkC [4, 4, 4] [true, true, true] [26, 66, 64, 104] 34 (cl_outno_1 a b g) w).Ok := mkC_ok (oks_cons (clQ_ok (by decide) _ _) <| oks_cons (clQ_ok (by decide) _ _) <| oks_cons (clQ_ok (by decide) _ _) <| oks_nil) rfl rfl
    have hT : ∀ t ∈ t_outno_1, t.Valid (mkC [4, 4, 4] [true, true, true] [26, 66, 64, 104] 34 (cl_outno_1 a b g) w) :=
      forall_cons (e_sign (pq rfl) h1) <|
      forall_nil
    refine Calls.mono (run_mk hC hT 70 Tryz.f70 [sp 0 1, qp 2] (.tup [.agg [.lit (.bool false), .lit (.int .u64 0), .lit (.int .u64 0), .lit (.pointer none), .lit (.bool false), .lit (.int .u64 0), .lit (.int .u64 0), .lit (.pointer none)], vp (.int .i64 3)]) 200 Tryz.func70 rfl rfl rfl (by kernel_rfl) [v1, v2] ⟨v1, _, rfl, (sp_is rfl rfl).2 ⟨q1, z1, z2⟩, v2, _, rfl, (qp_is rfl).2 ⟨q2, z3⟩, rfl⟩) ?_
    rintro e w' ⟨v, rfl, hv, hb⟩; exact meet_post0 hv hb
  · skip
    have hC : (mkC [4, 4, 4] [true, true, true] [26, 66, 64, 104] 34 (cl_outno_2 a b g) w).Ok := mkC_ok (oks_cons (clQ_ok (by decide) _ _) <| oks_cons (clQ_ok (by decide) _ _) <| oks_cons (clQ_ok (by decide) _ _) <| oks_nil) rfl rfl
    have hT : ∀ t ∈ t_outno_2, t.Valid (mkC [4, 4, 4] [true, true, true] [26, 66, 64, 104] 34 (cl_outno_2 a b g) w) :=
      forall_cons (e_sign (pq rfl) h1) <|
      forall_nil
    refine Calls.mono (run_mk hC hT 70 Tryz.f70 [sp 0 1, qp 2] (.tup [.agg [.lit (.bool false), .lit (.int .u64 0), .lit (.int .u64 0), .lit (.pointer none), .lit (.bool false), .lit (.int .u64 0), .lit (.int .u64 0), .lit (.pointer none)], vp (.int .i64 3)]) 200 Tryz.func70 rfl rfl rfl (by kernel_rfl) [v1, v2] ⟨v1, _, rfl, (sp_is rfl rfl).2 ⟨q1, z1, z2⟩, v2, _, rfl, (qp_is rfl).2 ⟨q2, z3⟩, rfl⟩) ?_
    rintro e w' ⟨v, rfl, hv, hb⟩; exact meet_post0 hv hb
  · skip
    exact absurd h1 hx


section
variable {csz : List Nat} {numc : List Bool} {okT : List Nat} {nt : Nat} {cl : List Cl} {w0 : World} {p1 p2 p3 p4 : Pat} {c1 c2 c3 c4 c5 c6 : Nat} {r s a b c d g lo hi : Rat} {k k1 k2 k3 k4 k5 k6 : Nat}
theorem e_quot (hG : Gr w0) (h1 : PQ csz numc okT nt cl w0 p1 r k1) (h2 : PQ csz numc okT nt cl w0 p2 s k2) (h3 : cl[c3]? = some (clQ (r / s) k3)) (hk : (Nat.ble k1 100000 && Nat.ble k2 100000 && fits (k1 + k2) k3) = true) (h0 : decide (s = 0) = false) :
    V csz numc okT nt cl w0 (.call 80) [p1, p2] (.val (qp c3)) := by
  simp only [Bool.and_eq_true] at hk
  have k1' := Nat.le_of_ble_eq_true hk.1.1
  have k2' := Nat.le_of_ble_eq_true hk.1.2
  have k3' := fits_le hk.2
  exact ent_qqq (enters_of Tryz.func80 (by kernel_rfl) rfl) h1 h2 h3 (fun z1 z2 => (z1.div z2 (fun e => of_decide_eq_false h0 (num_zero.1 e))).le (by omega)) (fun W v1 v2 hb q1 z1 q2 z2 => quot_any v1 v2 r s W (hG.below hb hG.size) q1 q2 (z1.le k1') (z2.le k2') h0)
/-- Four sizes that are small. -/
def smalls (l : List Nat) : Bool := l.all (fun k => Nat.ble k 10000)
theorem smalls_le {l : List Nat} (h : smalls l = true) : ∀ k ∈ l, k ≤ 10000 := fun k hk => Nat.le_of_ble_eq_true (List.all_eq_true.1 h k hk)
theorem siz_meet {a b c d : Rat} {k : Nat} (z1 : Siz a k) (z2 : Siz b k) (z3 : Siz c k) (z4 : Siz d k) : Siz (highOf (lowOf a [b]) [lowOf c [d]]) k ∧ Siz (lowOf (highOf a [b]) [highOf c [d]]) k :=
  ⟨siz_h1 (siz_l1 z1 z2) (siz_l1 z3 z4), siz_l1 (siz_h1 z1 z2) (siz_h1 z3 z4)⟩
theorem e_meet (hG : Gr w0) (h1 : PS csz numc okT nt cl w0 p1 a k1 b k2) (h2 : PS csz numc okT nt cl w0 p2 c k3 d k4) (h5 : cl[c5]? = some (clQ (highOf (lowOf a [b]) [lowOf c [d]]) k5)) (h6 : cl[c6]? = some (clQ (lowOf (highOf a [b]) [highOf c [d]]) k6))
    (hk : smalls [k1, k2, k3, k4] = true) (hk5 : fits 10000 k5 = true) (hk6 : fits 10000 k6 = true) (hx : cmpQ (highOf (lowOf a [b]) [lowOf c [d]]) (lowOf (highOf a [b]) [highOf c [d]]) ≠ 1) : V csz numc okT nt cl w0 (.call 66) [p1, p2] (.tup [sp c5 c6, vp (.bool true)]) := by
  have hk := smalls_le hk
  refine ⟨enters_of Tryz.func66 (by kernel_rfl) rfl, fun w vs hb hvs => ?_⟩
  obtain ⟨v1, _, rfl, h7, v2, _, rfl, h8, rfl⟩ := hvs
  obtain ⟨q1, z1, z2⟩ := h1 _ _ h7
  obtain ⟨q2, z3, z4⟩ := h2 _ _ h8
  have z1 := z1.le (hk k1 (by simp))
  have z2 := z2.le (hk k2 (by simp))
  have z3 := z3.le (hk k3 (by simp))
  have z4 := z4.le (hk k4 (by simp))
  refine (meet_ok v1 v2 a b c d w (hG.below hb hG.size) q1 q2 z1 z2 z3 z4 hx).mono ?_
  rintro e w' ⟨v, rfl, hv, hb'⟩
  have z := siz_meet z1 z2 z3 z4
  exact ⟨_, rfl, ⟨_, ⟨_, _, rfl, (sp_is h5 h6).2 ⟨hv, z.1.le (fits_le hk5).1, z.2.le (fits_le hk6).1⟩, _, _, rfl, vp_is.2 rfl, rfl⟩, rfl⟩, hb'⟩
theorem e_meet0 (hG : Gr w0) (h1 : PS csz numc okT nt cl w0 p1 a k1 b k2) (h2 : PS csz numc okT nt cl w0 p2 c k3 d k4) (h5 : cl[c5]? = some (clQ 0 k5))
    (hk : smalls [k1, k2, k3, k4] = true) (hk5 : fits 1 k5 = true) (hx : cmpQ (highOf (lowOf a [b]) [lowOf c [d]]) (lowOf (highOf a [b]) [highOf c [d]]) = 1) : V csz numc okT nt cl w0 (.call 66) [p1, p2] (.tup [sp c5 c5, vp (.bool false)]) := by
  have hk := smalls_le hk
  refine ⟨enters_of Tryz.func66 (by kernel_rfl) rfl, fun w vs hb hvs => ?_⟩
  obtain ⟨v1, _, rfl, h7, v2, _, rfl, h8, rfl⟩ := hvs
  obtain ⟨q1, z1, z2⟩ := h1 _ _ h7
  obtain ⟨q2, z3, z4⟩ := h2 _ _ h8
  refine (meet_no v1 v2 a b c d w (hG.below hb hG.size) q1 q2 (z1.le (hk k1 (by simp))) (z2.le (hk k2 (by simp))) (z3.le (hk k3 (by simp))) (z4.le (hk k4 (by simp))) hx).mono ?_
  rintro e w' ⟨v, rfl, hv, hb'⟩
  have z := Siz.zero k5 (fits_le hk5).1
  exact ⟨_, rfl, ⟨_, ⟨_, _, rfl, (sp_is h5 h5).2 ⟨hv, z, z⟩, _, _, rfl, vp_is.2 rfl, rfl⟩, rfl⟩, hb'⟩
theorem e_out (hG : Gr w0) (h1 : PS csz numc okT nt cl w0 p1 a k1 b k2) (h2 : PQ csz numc okT nt cl w0 p2 g k3) (h5 : cl[c5]? = some (clQ (((Rat.floor (lowOf a [b] * g⁻¹) : Int) : Rat) * g) k5)) (h6 : cl[c6]? = some (clQ (((Rat.ceil (highOf a [b] * g⁻¹) : Int) : Rat) * g) k6))
    (hk : smalls [k1, k2, k3] = true) (hk5 : fits 30002 k5 = true) (hk6 : fits 30002 k6 = true) (hx : sign g = 1) : V csz numc okT nt cl w0 (.call 70) [p1, p2] (.tup [sp c5 c6, vp (.int .i64 0)]) := by
  have hk := smalls_le hk
  have h0 : g ≠ 0 := by
    rintro rfl
    exact absurd hx (by decide)
  have hn : g.num ≠ 0 := fun e => h0 (num_zero.1 e)
  refine ⟨enters_of Tryz.func70 (by kernel_rfl) rfl, fun w vs hb hvs => ?_⟩
  obtain ⟨v1, _, rfl, h7, v2, _, rfl, h8, rfl⟩ := hvs
  obtain ⟨q1, z1, z2⟩ := h1 _ _ h7
  obtain ⟨q2, z3⟩ := h2 _ _ h8
  have z1 := z1.le (hk k1 (by simp))
  have z2 := z2.le (hk k2 (by simp))
  have z3 := z3.le (hk k3 (by simp))
  refine (out_ok v1 v2 a b g w (hG.below hb hG.size) q1 q2 z1 z2 z3 hx (decide_eq_false h0)).mono ?_
  rintro e w' ⟨v, rfl, hv, hb'⟩
  have y1 := (((siz_l1 z1 z2).mul (z3.inv hn)).floor (by decide)).mul z3
  have y2 := (((siz_h1 z1 z2).mul (z3.inv hn)).ceil (by decide)).mul z3
  exact ⟨_, rfl, ⟨_, ⟨_, _, rfl, (sp_is h5 h6).2 ⟨hv, y1.le (fits_le hk5).1, y2.le (fits_le hk6).1⟩, _, _, rfl, vp_is.2 rfl, rfl⟩, rfl⟩, hb'⟩
theorem e_out0 (hG : Gr w0) (h1 : PS csz numc okT nt cl w0 p1 a k1 b k2) (h2 : PQ csz numc okT nt cl w0 p2 g k3) (h5 : cl[c5]? = some (clQ 0 k5))
    (hk : smalls [k1, k2, k3] = true) (hk5 : fits 1 k5 = true) (hx : sign g ≠ 1) : V csz numc okT nt cl w0 (.call 70) [p1, p2] (.tup [sp c5 c5, vp (.int .i64 3)]) := by
  have hk := smalls_le hk
  refine ⟨enters_of Tryz.func70 (by kernel_rfl) rfl, fun w vs hb hvs => ?_⟩
  obtain ⟨v1, _, rfl, h7, v2, _, rfl, h8, rfl⟩ := hvs
  obtain ⟨q1, z1, z2⟩ := h1 _ _ h7
  obtain ⟨q2, z3⟩ := h2 _ _ h8
  refine (out_no v1 v2 a b g w (hG.below hb hG.size) q1 q2 (z1.le (hk k1 (by simp))) (z2.le (hk k2 (by simp))) (z3.le (hk k3 (by simp))) hx).mono ?_
  rintro e w' ⟨v, rfl, hv, hb'⟩
  have z := Siz.zero k5 (fits_le hk5).1
  exact ⟨_, rfl, ⟨_, ⟨_, _, rfl, (sp_is h5 h5).2 ⟨hv, z, z⟩, _, _, rfl, vp_is.2 rfl, rfl⟩, rfl⟩, hb'⟩
theorem e_number' (hG : Gr w0) {l : List UInt8} (h1 : cl[c1]? = some (clV (str l))) (hr : (readQ l).1 = r) (h2 : cl[c2]? = some (clQ r k2)) {n : Nat} (hl : l.length ≤ n) (hn : Nat.ble n 100000 = true) (hk : fits (n + 1) k2 = true) : V csz numc okT nt cl w0 (.call 76) [op c1] (.val (qp c2)) := by
  subst hr
  exact e_number hG h1 h2 hl hn hk
theorem e_at' (hG : Gr w0) {m : Nat} (hm : m ≤ 255) (h1 : cl[c1]? = some (clQ a k1)) (h2 : cl[c2]? = some (clQ b k2)) (h3 : cl[c3]? = some (clV (.int .u8 (m : Int)))) (h5 : cl[c5]? = some (clQ (a + (b - a) * partOf m) k5)) (z1 : Siz a 20) (z2 : Siz b 20) (hk : fits 70 k5 = true) :
    V csz numc okT nt cl w0 (.call 78) [sp c1 c2, op c3] (.val (qp c5)) := e_at hG hm (ps h1 h2) h3 h5 z1 z2 hk
end

end Sym
end Go.Proofs.YtnolcmoecodeaaaGreatDoor
