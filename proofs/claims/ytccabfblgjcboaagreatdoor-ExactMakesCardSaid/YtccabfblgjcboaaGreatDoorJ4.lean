/- Package exact, part 4: what its functions answer, as laws on the numbers that their values stand for (SpQuadr SpMath SpAbs SpOver KnownMath KnownBox Known LawNum LawEqual LawLong Ops OrdMath LawAt Cls ClsI SegC RefA RefB RefV RefSum RefRest RefW). -/
import Derived.Test.YtccabfblgjcboaaGreatDoorJ3
import Derived.KernelRfl
import Derived.Laws.AppendOwn
import Derived.Laws.OwnMore
import Derived.OwnWalk
set_option linter.unusedVariables false
set_option linter.unusedSimpArgs false

/- Quadratic: the span of the values on a span. -/
namespace Go.Proofs.YtccabfblgjcboaaGreatDoor
open Go Go.RowKit Go.Proofs Lim

/-- Where a quadratic turns. -/
def turnOf (a b : Rat) : Rat := -b * (a + a)⁻¹

/-- The values at the turn and at the upper end. -/
def quadVals (a b c lo hi : Rat) : List Rat := if a.num = 0 then [quadAt a b c hi] else turnVals (hasQ lo hi (turnOf a b)) (quadAt a b c hi) (quadAt a b c (turnOf a b))

/-- Three numbers' boxes, that of a span and that of a result. -/
theorem box38z (w : World) (a0 a1 a2 a3 b0 b1 b2 b3 c0 c1 c2 c3 d0 d1 d2 d3 d4 d5 d6 d7 : Value) : ∃ W, ((((w.alloc (.cells #[a0, a1, a2, a3] 26)).alloc (.cells #[b0, b1, b2, b3] 26)).alloc (.cells #[c0, c1, c2, c3] 26)).alloc (.cells #[d0, d1, d2, d3, d4, d5, d6, d7] 66)).alloc (.cells #[.bool false, .int .u64 0, .int .u64 0, .pointer none, .bool false, .int .u64 0, .int .u64 0, .pointer none] 66) = W ∧
    Below w.heap.size w W ∧ Box W w.heap.size a0 a1 a2 a3 ∧ Box W (w.heap.size + 1) b0 b1 b2 b3 ∧ Box W (w.heap.size + 1 + 1) c0 c1 c2 c3 ∧ Box8 W (w.heap.size + 1 + 1 + 1) d0 d1 d2 d3 d4 d5 d6 d7 ∧ ZBox8 W (w.heap.size + 1 + 1 + 1 + 1) ∧ W.heap.size = w.heap.size + 1 + 1 + 1 + 1 + 1 := by
  obtain ⟨W1, hW1, hb1, h1, h2, hs1⟩ := box2b w a0 a1 a2 a3 b0 b1 b2 b3
  have hb2 := below1 W1 (.cells #[c0, c1, c2, c3] 26)
  have h3 : Box _ W1.heap.size c0 c1 c2 c3 := heap_alloc_new W1 (.cells #[c0, c1, c2, c3] 26)
  have hs2 : (W1.alloc (.cells #[c0, c1, c2, c3] 26)).heap.size = w.heap.size + 1 + 1 + 1 := by rw [World.size_alloc, hs1]
  rw [hs1] at h3
  rw [hW1]
  generalize W1.alloc (.cells #[c0, c1, c2, c3] 26) = W2 at *
  obtain ⟨W3, hW3, hb3, h4, h5, hs3⟩ := box8z W2 d0 d1 d2 d3 d4 d5 d6 d7
  rw [hs2] at h4 h5 hs3
  exact ⟨W3, hW3, chain1 (chain1 hb1 hb2) hb3, (h1.below hb2 (Nat.le_refl _)).below hb3 (Nat.le_refl _), (h2.below hb2 (Nat.le_refl _)).below hb3 (Nat.le_refl _), h3.below hb3 (Nat.le_refl _), h4, h5, hs3⟩

theorem quad_siz {a b c x : Rat} {k : Nat} (za : Siz a k) (zb : Siz b k) (zc : Siz c k) (zx : Siz x k) : Siz (quadAt a b c x) (5 * k + 2) :=
  (((((za.mul zx).add zb).mul zx).add zc)).le (by omega)

theorem turn_siz {a b : Rat} {k : Nat} (za : Siz a k) (zb : Siz b k) (h : (a + a).num ≠ 0) : Siz (turnOf a b) (3 * k + 1) :=
  (zb.neg.mul ((za.add za).inv h)).le (by omega)

theorem double_ne {a : Rat} (h : a.num ≠ 0) : (a + a).num ≠ 0 := by
  intro e
  have h2 : a + a = 0 := Rat.num_eq_zero.1 e
  have h3 : a * 2 = 0 := by
    rw [← h2]
    grind
  rcases Rat.mul_eq_zero.1 h3 with h4 | h4
  · exact h (by rw [h4]; rfl)
  · exact absurd h4 (by decide)

set_option maxHeartbeats 2000000 in
theorem quadratic_any (va vb vc vs : Value) (a b c lo hi : Rat) (k : Nat) (w : World) (ha : IsQ w va a) (hb : IsQ w vb b) (hc : IsQ w vc c) (hs : IsS w vs lo hi)
    (za : Siz a k) (zb : Siz b k) (zc : Siz c k) (zl : Siz lo k) (zh : Siz hi k) (hk : ((100 * k + 100 : Nat) : Int) ≤ 1073741824) (hG : Gr w) :
    Calls Tryz.prog 70 #[va, vb, vc, vs] w (SpNew w (lowOf (quadAt a b c lo) (quadVals a b c lo hi)) (highOf (quadAt a b c lo) (quadVals a b c lo hi))) := by
  obtain ⟨s1, x1, y1, p1, rfl⟩ := ha.form
  obtain ⟨s2, x2, y2, p2, rfl⟩ := hb.form
  obtain ⟨s3, x3, y3, p3, rfl⟩ := hc.form
  obtain ⟨s4, x4, y4, p4, s5, x5, y5, p5, rfl, hl, hh⟩ := hs
  have HQ := Lib.hid (fun W (hW : Below w.heap.size w W) (e1 : Box W w.heap.size (.bool s1) (u x1) (u y1) (.pointer p1)) (e2 : Box W (w.heap.size + 1) (.bool s2) (u x2) (u y2) (.pointer p2)) (e3 : Box W (w.heap.size + 1 + 1) (.bool s3) (u x3) (u y3) (.pointer p3)) =>
    (⟨e1, e2, e3, ha.below hW (Nat.le_refl _), hb.below hW (Nat.le_refl _), hc.below hW (Nat.le_refl _)⟩ : Caught W w.heap.size (w.heap.size + 1) (w.heap.size + 1 + 1) s1 s2 s3 x1 y1 x2 y2 x3 y3 p1 p2 p3 a b c))
  have HF := Lib.hid (fun v x j W (hca : Caught W w.heap.size (w.heap.size + 1) (w.heap.size + 1 + 1) s1 s2 s3 x1 y1 x2 y2 x3 y3 p1 p2 p3 a b c) (hv : IsQ W v x) (zx : Siz x j) (hj : k ≤ j) (hj2 : j ≤ 3 * k + 1) (hW : Below w.heap.size w W) =>
    quad1 v w.heap.size (w.heap.size + 1) (w.heap.size + 1 + 1) s1 s2 s3 x1 y1 x2 y2 x3 y3 p1 p2 p3 a b c x j W hca hv (za.le hj) (zb.le hj) (zc.le hj) zx (by omega) (hG.below hW hG.size))
  have HSg := Lib.hid (fun W (hW : Below w.heap.size w W) => sign_q _ a W (ha.below hW (Nat.le_refl _)))
  have HL := Lib.hid (And.intro hl hh)
  by_cases h0 : a.num = 0
  · have hv : quadVals a b c lo hi = [quadAt a b c hi] := by unfold quadVals; rw [if_pos h0]
    rw [hv]
    have HU := Lib.hid (fun W W0 (hW : Below w.heap.size w W) (hca : Caught W w.heap.size (w.heap.size + 1) (w.heap.size + 1 + 1) s1 s2 s3 x1 y1 x2 y2 x3 y3 p1 p2 p3 a b c) (_ : W0 = W) =>
      under_none 112 #[] #[.pointer (some ⟨w.heap.size, 0, none⟩), .pointer (some ⟨w.heap.size + 1, 0, none⟩), .pointer (some ⟨w.heap.size + 1 + 1, 0, none⟩)] (enters_of Tryz.func112 (by kernel_rfl) rfl) s4 s5 x4 y4 x5 y5 p4 p5 (quadAt a b c lo) (quadAt a b c hi) 0 (5 * k + 2) W
      (fun W' hW' => HF.out _ lo k W' (hca.below hW' (Nat.le_refl _)) ((hl.below hW (Nat.le_refl _)).below hW' (Nat.le_refl _)) zl (Nat.le_refl _) (by omega) (hW.trans (hW'.mono hW.size)))
      (fun W' hW' => HF.out _ hi k W' (hca.below hW' (Nat.le_refl _)) ((hh.below hW (Nat.le_refl _)).below hW' (Nat.le_refl _)) zh (Nat.le_refl _) (by omega) (hW.trans (hW'.mono hW.size)))
      (quad_siz za zb zc zl) (quad_siz za zb zc zh) (by omega))
    have hsg : ((sign a : Int) == 0) = true := by unfold sign; rw [if_pos h0]; rfl
    clear ha hb hc hl hh hG za zb zc zl zh hk hv h0 HF
    generalize quadAt a b c lo = l at *
    generalize quadAt a b c hi = g at *
    generalize lowOf l [g] = lw at *
    generalize highOf l [g] = hg at *
    generalize sign a = sv at *
    go_enter Tryz.func70, Tryz.ntmps70
    go_wp2_with fail
    obtain ⟨W0, hW0, hb0, e1, e2, e3, e4, hz, hs⟩ := box38z w (.bool s1) (u x1) (u y1) (.pointer p1) (.bool s2) (u x2) (u y2) (.pointer p2) (.bool s3) (u x3) (u y3) (.pointer p3) (.bool s4) (u x4) (u y4) (.pointer p4) (.bool s5) (u x5) (u y5) (.pointer p5)
    rw [hW0]
    have HCa := Lib.hid (HQ.out W0 hb0 e1 e2 e3)
    refine (HSg.out _ hb0).mono ?_
    rintro e W1 ⟨rfl, hbb⟩
    have HCa := Lib.hid (HCa.out.below hbb (Nat.le_refl _))
    have HB1 := Lib.hid (chain1 hb0 hbb)
    have hX := Box8.below e4 hbb (Nat.le_refl _)
    have HZ := Lib.hid (Box8.below hz hbb (Nat.le_refl _))
    (obtain ⟨c0, c1, c2, c3, c4, c5, c6, c7⟩ := hX.cells)
    clear hX hbb hb0 e1 e2 e3 e4 hz hs hW0 HSg HQ
    go_wp2_with fail
    refine (HU.out _ _ HB1.out HCa.out rfl).mono ?_
    rintro e W9 ⟨v, rfl, hv, hb⟩
    have hz9 : ZBox8 W9 (w.heap.size + 1 + 1 + 1 + 1) := Box8.below HZ.out hb (Nat.le_refl _)
    have HB9 := Lib.hid (chain1 HB1.out hb)
    clear HZ HB1 HCa HU c0 c1 c2 c3 c4 c5 c6 c7
    (have hv' := hv; obtain ⟨t1, d1, e1, q1, t2, d2, e2, q2, rfl, _, _⟩ := hv'; have HFin := Lib.hid (SpNew.stored (Box8.nbox hz9) hv HB9.out (by omega) (.bool t1) (u d1) (u e1) (.pointer q1) (.bool t2) (u d2) (u e2) (.pointer q2)); (obtain ⟨z0, z1, z2, z3, z4, z5, z6, z7⟩ := Box8.cells hz9; have zf0 := Box8.frozen hz9 0; have zf1 := Box8.frozen hz9 1; have zf2 := Box8.frozen hz9 2; have zf3 := Box8.frozen hz9 3; have zf4 := Box8.frozen hz9 4; have zf5 := Box8.frozen hz9 5; have zf6 := Box8.frozen hz9 6; have zf7 := Box8.frozen hz9 7); clear hv hz9; clear hb; go_wp2_with fail; refine bodyPost_ret (v := .agg #[.bool t1, u d1, u e1, .pointer q1, .bool t2, u d2, u e2, .pointer q2]) (by simp [results, Tryz.results70, go_sem, z0, z1, z2, z3, z4, z5, z6, z7]) rfl ?_; exact HFin.out)
  · have hv : quadVals a b c lo hi = turnVals (hasQ lo hi (turnOf a b)) (quadAt a b c hi) (quadAt a b c (turnOf a b)) := by unfold quadVals; rw [if_neg h0]
    rw [hv]
    have hd := double_ne h0
    have zt := turn_siz za zb hd
    have HU := Lib.hid (fun bt ct s6 x6 y6 p6 W (hW : Below w.heap.size w W) (hca : Caught W w.heap.size (w.heap.size + 1) (w.heap.size + 1 + 1) s1 s2 s3 x1 y1 x2 y2 x3 y3 p1 p2 p3 a b c) (ht : IsQ W (.agg #[.bool s6, u x6, u y6, .pointer p6]) (turnOf a b)) c0 c1 c2 c3 =>
      under_one 112 #[] #[.pointer (some ⟨w.heap.size, 0, none⟩), .pointer (some ⟨w.heap.size + 1, 0, none⟩), .pointer (some ⟨w.heap.size + 1 + 1, 0, none⟩)] (enters_of Tryz.func112 (by kernel_rfl) rfl) s4 s5 x4 y4 x5 y5 p4 p5 lo hi (turnOf a b) (quadAt a b c lo) (quadAt a b c hi) (quadAt a b c (turnOf a b)) (5 * (3 * k + 1) + 2) W
      bt 0 ct s6 x6 y6 p6 (hl.below hW (Nat.le_refl _)) (hh.below hW (Nat.le_refl _)) ht c0 c1 c2 c3
      (fun W' hW' => HF.out _ lo k W' (hca.below hW' (Nat.le_refl _)) ((hl.below hW (Nat.le_refl _)).below hW' (Nat.le_refl _)) zl (Nat.le_refl _) (by omega) (hW.trans (hW'.mono hW.size)))
      (fun W' hW' => HF.out _ hi k W' (hca.below hW' (Nat.le_refl _)) ((hh.below hW (Nat.le_refl _)).below hW' (Nat.le_refl _)) zh (Nat.le_refl _) (by omega) (hW.trans (hW'.mono hW.size)))
      (fun _ W' hW' => HF.out _ (turnOf a b) (3 * k + 1) W' (hca.below hW' (Nat.le_refl _)) (ht.below hW' (Nat.le_refl _)) zt (by omega) (Nat.le_refl _) (hW.trans (hW'.mono hW.size)))
      (zl.le (by omega)) (zh.le (by omega)) (zt.le (by omega)) ((quad_siz za zb zc zl).le (by omega)) ((quad_siz za zb zc zh).le (by omega)) (fun _ => quad_siz (za.le (by omega)) (zb.le (by omega)) (zc.le (by omega)) zt) (by omega))
    have HN := Lib.hid (fun W (hW : Below w.heap.size w W) => neg_q _ b W (hb.below hW (Nat.le_refl _)))
    have HP := Lib.hid (fun W (hW : Below w.heap.size w W) => plus_q _ _ a a k W (ha.below hW (Nat.le_refl _)) (ha.below hW (Nat.le_refl _)) za za (by omega) (hG.below hW hG.size))
    have HR := Lib.hid (fun v W (hv : IsQ W v (a + a)) => recip_q v _ W hv hd)
    have HT := Lib.hid (fun v1 v2 W (h1 : IsQ W v1 (-b)) (h2 : IsQ W v2 (a + a)⁻¹) (hW : Below w.heap.size w W) => show Calls Tryz.prog 29 #[v1, v2] W (QNew W (turnOf a b)) from times_q v1 v2 (-b) (a + a)⁻¹ (k + k + 1) W h1 h2 (zb.neg.le (by omega)) ((za.add za).inv hd) (by omega) (hG.below hW hG.size))
    have hsg : ((sign a : Int) == 0) = false := by unfold sign; rw [if_neg h0]; split <;> rfl
    clear ha hb hc hl hh hG za zb zc zl zh hk hv h0 HF zt hd
    generalize turnOf a b = t at *
    generalize hasQ lo hi t = hq at *
    generalize quadAt a b c lo = l at *
    generalize quadAt a b c hi = g at *
    generalize quadAt a b c t = g2 at *
    generalize lowOf l (turnVals hq g g2) = lw at *
    generalize highOf l (turnVals hq g g2) = hg at *
    generalize sign a = sv at *
    generalize (a + a)⁻¹ = ri at *
    generalize a + a = aa at *
    generalize -b = nb at *
    go_enter Tryz.func70, Tryz.ntmps70
    go_wp2_with fail
    obtain ⟨W0, hW0, hb0, e1, e2, e3, e4, hz, hs⟩ := box38z w (.bool s1) (u x1) (u y1) (.pointer p1) (.bool s2) (u x2) (u y2) (.pointer p2) (.bool s3) (u x3) (u y3) (.pointer p3) (.bool s4) (u x4) (u y4) (.pointer p4) (.bool s5) (u x5) (u y5) (.pointer p5)
    rw [hW0]
    have HCa := Lib.hid (HQ.out W0 hb0 e1 e2 e3)
    refine (HSg.out _ hb0).mono ?_
    rintro e W1 ⟨rfl, hbb⟩
    have HCa := Lib.hid (HCa.out.below hbb (Nat.le_refl _))
    have HB1 := Lib.hid (chain1 hb0 hbb)
    have hX := Box8.below e4 hbb (Nat.le_refl _)
    have HX := Lib.hid hX
    have HZ := Lib.hid (Box8.below hz hbb (Nat.le_refl _))
    have HC1 := Lib.hid HCa.out.c1
    have HC2 := Lib.hid HCa.out.c2
    obtain ⟨g0, g1, g2', g3⟩ := HC1.out.cells
    obtain ⟨h0, h1, h2, h3⟩ := HC2.out.cells
    (obtain ⟨c0, c1, c2, c3, c4, c5, c6, c7⟩ := hX.cells)
    have n1 : ¬ w.heap.size = w.heap.size + 1 + 1 + 1 + 1 := by omega
    have n2 : ¬ w.heap.size + 1 + 1 + 1 + 1 = w.heap.size := by omega
    have n3 : ¬ w.heap.size + 1 = w.heap.size + 1 + 1 + 1 + 1 := by omega
    have n4 : ¬ w.heap.size + 1 + 1 + 1 + 1 = w.heap.size + 1 := by omega
    have n5 : ¬ w.heap.size + 1 + 1 + 1 = w.heap.size + 1 + 1 + 1 + 1 := by omega
    have n6 : ¬ w.heap.size + 1 + 1 + 1 + 1 = w.heap.size + 1 + 1 + 1 := by omega
    have n7 : ¬ w.heap.size = w.heap.size + 1 + 1 + 1 := by omega
    have n8 : ¬ w.heap.size + 1 + 1 + 1 = w.heap.size := by omega
    clear hX hbb hb0 e1 e2 e3 e4 hz hs hW0 HSg HQ
    have hb0 := Below.refl W1.heap.size W1
    go_wp2_with fail
    go_region_held3 (fun w' => (w'.cell? ⟨w.heap.size, 0, none⟩ = some (.bool s1) ∧ w'.cell? ⟨w.heap.size, 1, none⟩ = some (u x1) ∧ w'.cell? ⟨w.heap.size, 2, none⟩ = some (u y1) ∧ w'.cell? ⟨w.heap.size, 3, none⟩ = some (.pointer p1)) ∧ (w'.cell? ⟨w.heap.size + 1, 0, none⟩ = some (.bool s2) ∧ w'.cell? ⟨w.heap.size + 1, 1, none⟩ = some (u x2) ∧ w'.cell? ⟨w.heap.size + 1, 2, none⟩ = some (u y2) ∧ w'.cell? ⟨w.heap.size + 1, 3, none⟩ = some (.pointer p2)) ∧ (w'.cell? ⟨w.heap.size + 1 + 1 + 1, 0, none⟩ = some (.bool s4) ∧ w'.cell? ⟨w.heap.size + 1 + 1 + 1, 1, none⟩ = some (u x4) ∧ w'.cell? ⟨w.heap.size + 1 + 1 + 1, 2, none⟩ = some (u y4) ∧ w'.cell? ⟨w.heap.size + 1 + 1 + 1, 3, none⟩ = some (.pointer p4) ∧ w'.cell? ⟨w.heap.size + 1 + 1 + 1, 4, none⟩ = some (.bool s5) ∧ w'.cell? ⟨w.heap.size + 1 + 1 + 1, 5, none⟩ = some (u x5) ∧ w'.cell? ⟨w.heap.size + 1 + 1 + 1, 6, none⟩ = some (u y5) ∧ w'.cell? ⟨w.heap.size + 1 + 1 + 1, 7, none⟩ = some (.pointer p5))) (go_keep) (first | ((with_reducible refine (HN.out _ HB1.out.drew).mono ?_); rintro e W2 ⟨v2, rfl, hv2, hb⟩; obtain ⟨_, _, _, _, rfl⟩ := hv2.form; have hb0 : Below W1.heap.size W1 W2 := (by first | exact chain hb0 hb | exact chain1 hb0 hb); clear g0 g1 g2' g3 h0 h1 h2 h3 c0 c1 c2 c3 c4 c5 c6 c7; obtain ⟨g0, g1, g2', g3⟩ := (HC1.out.below hb0 (Nat.le_refl _)).cells; obtain ⟨h0, h1, h2, h3⟩ := (HC2.out.below hb0 (Nat.le_refl _)).cells; have hX := Box8.below HX.out hb0 (Nat.le_refl _); (obtain ⟨c0, c1, c2, c3, c4, c5, c6, c7⟩ := hX.cells); clear hX hb) | ((with_reducible refine (HP.out _ (chain1 HB1.out hb0)).mono ?_); rintro e W3 ⟨v3, rfl, hv3, hb⟩; obtain ⟨_, _, _, _, rfl⟩ := hv3.form; have hv2 := hv2.below hb (Nat.le_refl _); have hb0 : Below W1.heap.size W1 W3 := (by first | exact chain hb0 hb | exact chain1 hb0 hb); clear g0 g1 g2' g3 h0 h1 h2 h3 c0 c1 c2 c3 c4 c5 c6 c7; obtain ⟨g0, g1, g2', g3⟩ := (HC1.out.below hb0 (Nat.le_refl _)).cells; obtain ⟨h0, h1, h2, h3⟩ := (HC2.out.below hb0 (Nat.le_refl _)).cells; have hX := Box8.below HX.out hb0 (Nat.le_refl _); (obtain ⟨c0, c1, c2, c3, c4, c5, c6, c7⟩ := hX.cells); clear hX hb) | ((with_reducible refine (HR.out _ _ hv3).mono ?_); rintro e W4 ⟨v4, rfl, hv4, hb⟩; obtain ⟨_, _, _, _, rfl⟩ := hv4.form; have hv2 := hv2.below hb (Nat.le_refl _); have hb0 : Below W1.heap.size W1 W4 := (by first | exact chain hb0 hb | exact chain1 hb0 hb); clear g0 g1 g2' g3 h0 h1 h2 h3 c0 c1 c2 c3 c4 c5 c6 c7; obtain ⟨g0, g1, g2', g3⟩ := (HC1.out.below hb0 (Nat.le_refl _)).cells; obtain ⟨h0, h1, h2, h3⟩ := (HC2.out.below hb0 (Nat.le_refl _)).cells; have hX := Box8.below HX.out hb0 (Nat.le_refl _); (obtain ⟨c0, c1, c2, c3, c4, c5, c6, c7⟩ := hX.cells); clear hX hb) | ((with_reducible refine (HT.out _ _ _ hv2 hv4 (chain1 HB1.out hb0)).mono ?_); rintro e W5 ⟨v5, rfl, hv5, hb⟩; obtain ⟨s6, x6, y6, p6, rfl⟩ := hv5.form; have hb0 : Below W1.heap.size W1 W5 := (by first | exact chain hb0 hb | exact chain1 hb0 hb); clear g0 g1 g2' g3 h0 h1 h2 h3 c0 c1 c2 c3 c4 c5 c6 c7; obtain ⟨g0, g1, g2', g3⟩ := (HC1.out.below hb0 (Nat.le_refl _)).cells; obtain ⟨h0, h1, h2, h3⟩ := (HC2.out.below hb0 (Nat.le_refl _)).cells; have hX := Box8.below HX.out hb0 (Nat.le_refl _); (obtain ⟨c0, c1, c2, c3, c4, c5, c6, c7⟩ := hX.cells); clear hX hb) | ((with_reducible refine (HU.out _ 1 _ _ _ _ _ (chain1 (chain1 HB1.out hb0) (below1 W5 _)) (HCa.out.below (chain1 hb0 (below1 W5 _)) (Nat.le_refl _)) (hv5.below (below1 W5 _) (Nat.le_refl _)) (World.cell?_alloc_new ..) (World.cell?_alloc_new ..) (World.cell?_alloc_new ..) (World.cell?_alloc_new ..)).mono ?_); rintro e W9 ⟨v, rfl, hv, hb'⟩; have hb := chain1 (below1 W5 _) hb'; clear hb'; have hb0 : Below W1.heap.size W1 W9 := (by first | exact chain hb0 hb | exact chain1 hb0 hb); clear g0 g1 g2' g3 h0 h1 h2 h3 c0 c1 c2 c3 c4 c5 c6 c7; obtain ⟨g0, g1, g2', g3⟩ := (HC1.out.below hb0 (Nat.le_refl _)).cells; obtain ⟨h0, h1, h2, h3⟩ := (HC2.out.below hb0 (Nat.le_refl _)).cells; have hX := Box8.below HX.out hb0 (Nat.le_refl _); (obtain ⟨c0, c1, c2, c3, c4, c5, c6, c7⟩ := hX.cells); clear hX hb; have hv' := hv; obtain ⟨t1, d1, e1, q1, t2, d2, e2, q2, rfl, _, _⟩ := hv'; have hz9 := Box8.below HZ.out hb0 (Nat.le_refl _); (obtain ⟨z0, z1, z2, z3, z4, z5, z6, z7⟩ := Box8.cells hz9; have zf0 := Box8.frozen hz9 0; have zf1 := Box8.frozen hz9 1; have zf2 := Box8.frozen hz9 2; have zf3 := Box8.frozen hz9 3; have zf4 := Box8.frozen hz9 4; have zf5 := Box8.frozen hz9 5; have zf6 := Box8.frozen hz9 6; have zf7 := Box8.frozen hz9 7)))
    have HFin := Lib.hid (SpNew.stored (Box8.nbox hz9) hv (chain1 HB1.out hb0) (by omega) (.bool t1) (u d1) (u e1) (.pointer q1) (.bool t2) (u d2) (u e2) (.pointer q2))
    clear hv hz9 hb0 hv2 hv3 hv4 hv5 c0 c1 c2 c3 c4 c5 c6 c7 g0 g1 g2' g3 h0 h1 h2 h3
    go_wp2_with fail
    refine bodyPost_ret (v := .agg #[.bool t1, u d1, u e1, .pointer q1, .bool t2, u d2, u e2, .pointer q2]) (by simp [results, Tryz.results70, go_sem, z0, z1, z2, z3, z4, z5, z6, z7]) rfl ?_
    exact HFin.out

end Go.Proofs.YtccabfblgjcboaaGreatDoor

/- The mathematics of spans: what lies between ends, and where ends come from. -/
namespace Go.Proofs.YtccabfblgjcboaaGreatDoor
open Go Go.RowKit Go.Proofs Lim

theorem lowOf_le_head (r : Rat) (rs : List Rat) : lowOf r rs ≤ r := by
  induction rs generalizing r with
  | nil => exact Rat.le_refl
  | cons x rs ih =>
    show lowOf (if x < r then x else r) rs ≤ r
    refine Rat.le_trans (ih _) ?_
    split
    · rename_i h; exact Rat.le_of_lt h
    · exact Rat.le_refl
theorem lowOf_le_mem {r : Rat} {rs : List Rat} {x : Rat} (h : x ∈ rs) : lowOf r rs ≤ x := by
  induction rs generalizing r with
  | nil => cases h
  | cons y rs ih =>
    show lowOf (if y < r then y else r) rs ≤ x
    rcases List.mem_cons.1 h with rfl | h
    · refine Rat.le_trans (lowOf_le_head _ _) ?_
      split
      · exact Rat.le_refl
      · rename_i h; exact Rat.not_lt.1 h
    · exact ih h
theorem le_highOf_head (r : Rat) (rs : List Rat) : r ≤ highOf r rs := by
  induction rs generalizing r with
  | nil => exact Rat.le_refl
  | cons x rs ih =>
    show r ≤ highOf (if r < x then x else r) rs
    refine Rat.le_trans ?_ (ih _)
    split
    · rename_i h; exact Rat.le_of_lt h
    · exact Rat.le_refl
theorem le_highOf_mem {r : Rat} {rs : List Rat} {x : Rat} (h : x ∈ rs) : x ≤ highOf r rs := by
  induction rs generalizing r with
  | nil => cases h
  | cons y rs ih =>
    show x ≤ highOf (if r < y then y else r) rs
    rcases List.mem_cons.1 h with rfl | h
    · refine Rat.le_trans ?_ (le_highOf_head _ _)
      split
      · exact Rat.le_refl
      · rename_i h; exact Rat.not_lt.1 h
    · exact ih h

/-- x lies between a and b, in whatever order these stand. -/
def Btw (a b x : Rat) : Prop := (a ≤ x ∧ x ≤ b) ∨ (b ≤ x ∧ x ≤ a)

theorem Btw.left (a b : Rat) : Btw a b a := by
  rcases (Rat.le_total : a ≤ b ∨ b ≤ a) with h | h
  · exact .inl ⟨Rat.le_refl, h⟩
  · exact .inr ⟨h, Rat.le_refl⟩
theorem Btw.right (a b : Rat) : Btw a b b := by
  rcases (Rat.le_total : a ≤ b ∨ b ≤ a) with h | h
  · exact .inl ⟨h, Rat.le_refl⟩
  · exact .inr ⟨Rat.le_refl, h⟩
theorem Btw.symm {a b x : Rat} (h : Btw a b x) : Btw b a x := Or.symm h

theorem hasQ_iff (a b x : Rat) : hasQ a b x = true ↔ Btw a b x := by
  unfold hasQ Btw
  rw [Bool.and_eq_true, decide_eq_true_eq, decide_eq_true_eq]
  show (if b < a then b else a) ≤ x ∧ x ≤ (if a < b then b else a) ↔ _
  constructor
  · rintro ⟨h1, h2⟩
    split at h1
    · rename_i h
      rw [if_neg (Rat.not_lt.2 (Rat.le_of_lt h))] at h2
      exact .inr ⟨h1, h2⟩
    · rename_i h
      split at h2
      · exact .inl ⟨h1, h2⟩
      · rename_i h'
        have : a = b := Rat.le_antisymm (Rat.not_lt.1 h) (Rat.not_lt.1 h')
        subst this
        exact .inl ⟨h1, h2⟩
  · rintro (⟨h1, h2⟩ | ⟨h1, h2⟩)
    · constructor
      · split
        · rename_i h; exact Rat.le_trans (Rat.le_of_lt h) h1
        · exact h1
      · split
        · exact h2
        · rename_i h; exact Rat.le_trans h2 (Rat.not_lt.1 h)
    · constructor
      · split
        · exact h1
        · rename_i h; exact Rat.le_trans (Rat.not_lt.1 h) h1
      · split
        · rename_i h; exact Rat.le_trans h2 (Rat.le_of_lt h)
        · exact h2

theorem hasQ_false {a b x : Rat} (h : hasQ a b x = false) : ¬ Btw a b x := fun k => by
  rw [(hasQ_iff a b x).2 k] at h; exact absurd h (by decide)

theorem low_le_high (r : Rat) (rs : List Rat) : lowOf r rs ≤ highOf r rs := Rat.le_trans (lowOf_le_head r rs) (le_highOf_head r rs)

/-- What lies from the least to the greatest of some numbers. -/
theorem Btw.ends {r : Rat} {rs : List Rat} {x : Rat} (h1 : lowOf r rs ≤ x) (h2 : x ≤ highOf r rs) : Btw (lowOf r rs) (highOf r rs) x := .inl ⟨h1, h2⟩

theorem Btw.le {a b x : Rat} (h : Btw a b x) (hab : a ≤ b) : a ≤ x ∧ x ≤ b := by
  rcases h with h | ⟨h1, h2⟩
  · exact h
  · have h3 := Rat.le_antisymm hab (Rat.le_trans h1 h2)
    subst h3
    exact ⟨h1, h2⟩

theorem btw_trans {a b c d x : Rat} (h : Btw c d x) (hc : Btw a b c) (hd : Btw a b d) : Btw a b x := by
  rcases h with ⟨h1, h2⟩ | ⟨h1, h2⟩ <;> rcases hc with ⟨c1, c2⟩ | ⟨c1, c2⟩ <;> rcases hd with ⟨d1, d2⟩ | ⟨d1, d2⟩
  all_goals first
    | exact .inl ⟨Rat.le_trans c1 h1, Rat.le_trans h2 d2⟩
    | exact .inr ⟨Rat.le_trans c1 h1, Rat.le_trans h2 d2⟩
    | exact .inl ⟨Rat.le_trans d1 h1, Rat.le_trans h2 c2⟩
    | exact .inr ⟨Rat.le_trans d1 h1, Rat.le_trans h2 c2⟩
    | exact .inl ⟨Rat.le_trans c1 h1, Rat.le_trans h2 (Rat.le_trans d2 (Rat.le_trans c1 c2))⟩
    | exact .inl ⟨Rat.le_trans c1 h1, Rat.le_trans (Rat.le_trans h2 d2) (Rat.le_trans c1 c2)⟩
    | exact .inr ⟨Rat.le_trans c1 h1, Rat.le_trans (Rat.le_trans h2 d2) (Rat.le_trans c1 c2)⟩
    | exact .inl ⟨Rat.le_trans d1 h1, Rat.le_trans (Rat.le_trans h2 c2) (Rat.le_trans d1 d2)⟩
    | exact .inr ⟨Rat.le_trans d1 h1, Rat.le_trans (Rat.le_trans h2 c2) (Rat.le_trans d1 d2)⟩

/-- A function of two numbers that grows or falls in each of them between ends. -/
def Mono (f : Rat → Rat) (a b : Rat) : Prop := ∀ x, Btw a b x → Btw (f a) (f b) (f x)

theorem corners {f : Rat → Rat → Rat} {a b c d x y : Rat} (hx : Btw a b x) (hy : Btw c d y) (h1 : ∀ y, Btw c d y → Mono (fun x => f x y) a b) (h2 : ∀ x, Btw a b x → Mono (f x) c d) :
    Btw (wLow f a b c d) (wHigh f a b c d) (f x y) := by
  have m1 : Btw (wLow f a b c d) (wHigh f a b c d) (f a c) := .inl ⟨lowOf_le_head _ _, le_highOf_head _ _⟩
  have m2 : Btw (wLow f a b c d) (wHigh f a b c d) (f a d) := .inl ⟨lowOf_le_mem (by simp), le_highOf_mem (by simp)⟩
  have m3 : Btw (wLow f a b c d) (wHigh f a b c d) (f b c) := .inl ⟨lowOf_le_mem (by simp), le_highOf_mem (by simp)⟩
  have m4 : Btw (wLow f a b c d) (wHigh f a b c d) (f b d) := .inl ⟨lowOf_le_mem (by simp), le_highOf_mem (by simp)⟩
  exact btw_trans (h1 y hy x hx) (btw_trans (h2 a (Btw.left a b) y hy) m1 m2) (btw_trans (h2 b (Btw.right a b) y hy) m3 m4)

theorem mono_add_left (y a b : Rat) : Mono (fun x => x + y) a b := by
  rintro x (⟨h1, h2⟩ | ⟨h1, h2⟩)
  · exact .inl ⟨Rat.add_le_add_right.2 h1, Rat.add_le_add_right.2 h2⟩
  · exact .inr ⟨Rat.add_le_add_right.2 h1, Rat.add_le_add_right.2 h2⟩
theorem mono_add_right (x a b : Rat) : Mono (fun y => x + y) a b := by
  rintro y (⟨h1, h2⟩ | ⟨h1, h2⟩)
  · exact .inl ⟨Rat.add_le_add_left.2 h1, Rat.add_le_add_left.2 h2⟩
  · exact .inr ⟨Rat.add_le_add_left.2 h1, Rat.add_le_add_left.2 h2⟩
theorem mono_mul_left (y a b : Rat) : Mono (fun x => x * y) a b := by
  rcases (Rat.le_total : 0 ≤ y ∨ y ≤ 0) with hy | hy
  · rintro x (⟨h1, h2⟩ | ⟨h1, h2⟩)
    · exact .inl ⟨Rat.mul_le_mul_of_nonneg_right h1 hy, Rat.mul_le_mul_of_nonneg_right h2 hy⟩
    · exact .inr ⟨Rat.mul_le_mul_of_nonneg_right h1 hy, Rat.mul_le_mul_of_nonneg_right h2 hy⟩
  · have hy' : 0 ≤ -y := by have := Rat.neg_le_neg hy; simpa using this
    have key : ∀ {u v : Rat}, u ≤ v → v * y ≤ u * y := fun {u v} h => by
      have := Rat.mul_le_mul_of_nonneg_right h hy'
      rw [Rat.mul_neg, Rat.mul_neg] at this
      exact Rat.neg_le_neg_iff.1 this
    rintro x (⟨h1, h2⟩ | ⟨h1, h2⟩)
    · exact .inr ⟨key h2, key h1⟩
    · exact .inl ⟨key h2, key h1⟩
theorem mono_mul_right (x a b : Rat) : Mono (fun y => x * y) a b := by
  intro y hy
  have := mono_mul_left x a b y hy
  simpa only [Rat.mul_comm x] using this
theorem mono_neg (a b : Rat) : Mono (fun y => -y) a b := by
  rintro y (⟨h1, h2⟩ | ⟨h1, h2⟩)
  · exact .inr ⟨Rat.neg_le_neg h2, Rat.neg_le_neg h1⟩
  · exact .inl ⟨Rat.neg_le_neg h2, Rat.neg_le_neg h1⟩
theorem mono_sub_left (y a b : Rat) : Mono (fun x => x - y) a b := by
  intro x hx
  have := mono_add_left (-y) a b x hx
  simpa only [Rat.sub_eq_add_neg] using this
theorem mono_sub_right (x a b : Rat) : Mono (fun y => x - y) a b := by
  intro y hy
  have := mono_add_right x (-a) (-b) (-y) (mono_neg a b y hy)
  simpa only [Rat.sub_eq_add_neg] using this


theorem inv_anti {u v : Rat} (h : 0 < u) (k : u ≤ v) : v⁻¹ ≤ u⁻¹ := by
  have hv : 0 < v := by grind
  have h1 := Rat.inv_pos.2 h
  have h2 := Rat.inv_pos.2 hv
  have h3 : u⁻¹ - v⁻¹ = (v - u) * (u⁻¹ * v⁻¹) := by grind
  have h4 := Rat.mul_nonneg (a := v - u) (b := u⁻¹ * v⁻¹) (by grind) (Rat.mul_nonneg (by grind) (by grind))
  grind
theorem inv_anti_neg {u v : Rat} (h : v < 0) (k : u ≤ v) : v⁻¹ ≤ u⁻¹ := by
  have h1 := inv_anti (u := -v) (v := -u) (by grind) (by grind)
  have h2 : (-v)⁻¹ = -v⁻¹ := by grind
  have h3 : (-u)⁻¹ = -u⁻¹ := by grind
  grind
theorem mono_inv {c d : Rat} (h0 : ¬ Btw c d 0) : Mono (fun y => y⁻¹) c d := by
  have hs : (0 < c ∧ 0 < d) ∨ (c < 0 ∧ d < 0) := by unfold Btw at h0; grind
  intro y hy
  show Btw c⁻¹ d⁻¹ y⁻¹
  unfold Btw at hy ⊢
  rcases hs with ⟨hc, hd⟩ | ⟨hc, hd⟩ <;> rcases hy with ⟨h1, h2⟩ | ⟨h1, h2⟩
  · exact .inr ⟨inv_anti (by grind) h2, inv_anti hc h1⟩
  · exact .inl ⟨inv_anti (by grind) h2, inv_anti hd h1⟩
  · exact .inr ⟨inv_anti_neg hd h2, inv_anti_neg (by grind) h1⟩
  · exact .inl ⟨inv_anti_neg hc h2, inv_anti_neg (by grind) h1⟩

/-- The five operations at numbers of spans. -/
theorem plus_in {a b c d x y : Rat} (hx : Btw a b x) (hy : Btw c d y) : Btw (wLow (fun r s => r + s) a b c d) (wHigh (fun r s => r + s) a b c d) (x + y) :=
  corners (f := fun r s => r + s) hx hy (fun y _ => mono_add_left y a b) (fun x _ => mono_add_right x c d)
theorem minus_in {a b c d x y : Rat} (hx : Btw a b x) (hy : Btw c d y) : Btw (wLow (fun r s => r - s) a b c d) (wHigh (fun r s => r - s) a b c d) (x - y) :=
  corners (f := fun r s => r - s) hx hy (fun y _ => mono_sub_left y a b) (fun x _ => mono_sub_right x c d)
theorem times_in {a b c d x y : Rat} (hx : Btw a b x) (hy : Btw c d y) : Btw (wLow (fun r s => r * s) a b c d) (wHigh (fun r s => r * s) a b c d) (x * y) :=
  corners (f := fun r s => r * s) hx hy (fun y _ => mono_mul_left y a b) (fun x _ => mono_mul_right x c d)
theorem over_in {a b c d x y : Rat} (hx : Btw a b x) (hy : Btw c d y) (h0 : ¬ Btw c d 0) : Btw (wLow (fun r s => r * s⁻¹) a b c d) (wHigh (fun r s => r * s⁻¹) a b c d) (x * y⁻¹) := by
  refine corners (f := fun r s => r * s⁻¹) hx hy (fun y _ => mono_mul_left y⁻¹ a b) (fun x _ y hy => ?_)
  exact mono_mul_right x c⁻¹ d⁻¹ y⁻¹ (mono_inv h0 y hy)

/-- An end of the results is the result of ends. -/
theorem wLow_mem (f : Rat → Rat → Rat) (a b c d : Rat) : wLow f a b c d = f a c ∨ wLow f a b c d = f a d ∨ wLow f a b c d = f b c ∨ wLow f a b c d = f b d := by
  have := lowOf_mem (f a c) [f a d, f b c, f b d]
  unfold wLow
  simpa using this
theorem wHigh_mem (f : Rat → Rat → Rat) (a b c d : Rat) : wHigh f a b c d = f a c ∨ wHigh f a b c d = f a d ∨ wHigh f a b c d = f b c ∨ wHigh f a b c d = f b d := by
  have := highOf_mem (f a c) [f a d, f b c, f b d]
  unfold wHigh
  simpa using this

theorem square_in {a b x : Rat} (hx : Btw a b x) : Btw (lowOf (a * a) (turnVals (hasQ a b 0) (b * b) (0 * 0))) (highOf (a * a) (turnVals (hasQ a b 0) (b * b) (0 * 0))) (x * x) := by
  have m1 := lowOf_le_head (a * a) (turnVals (hasQ a b 0) (b * b) (0 * 0))
  have m2 : lowOf (a * a) (turnVals (hasQ a b 0) (b * b) (0 * 0)) ≤ b * b := lowOf_le_mem (by unfold turnVals; split <;> simp)
  have m3 := le_highOf_head (a * a) (turnVals (hasQ a b 0) (b * b) (0 * 0))
  have m4 : b * b ≤ highOf (a * a) (turnVals (hasQ a b 0) (b * b) (0 * 0)) := le_highOf_mem (by unfold turnVals; split <;> simp)
  have m5 : Btw a b 0 → lowOf (a * a) (turnVals (hasQ a b 0) (b * b) (0 * 0)) ≤ 0 := fun h => by
    have := (hasQ_iff a b 0).2 h
    exact lowOf_le_mem (by rw [this]; simp [turnVals])
  generalize lowOf (a * a) (turnVals (hasQ a b 0) (b * b) (0 * 0)) = l at *
  generalize highOf (a * a) (turnVals (hasQ a b 0) (b * b) (0 * 0)) = g at *
  have sq : ∀ {u v : Rat}, 0 ≤ u → u ≤ v → u * u ≤ v * v := fun {u v} h k => by
    have h1 := Rat.mul_le_mul_of_nonneg_right k h
    have h2 := Rat.mul_le_mul_of_nonneg_right k (Rat.le_trans h k)
    have h3 : u * v = v * u := Rat.mul_comm u v
    grind
  have sqn : ∀ {u v : Rat}, v ≤ 0 → u ≤ v → v * v ≤ u * u := fun {u v} h k => by
    have := sq (u := -v) (v := -u) (by grind) (by grind)
    have h1 : -v * -v = v * v := by grind
    have h2 : -u * -u = u * u := by grind
    grind
  have nn : 0 ≤ x * x := by
    rcases (Rat.le_total : 0 ≤ x ∨ x ≤ 0) with h | h
    · exact Rat.mul_nonneg h h
    · have := sqn (u := x) (v := 0) Rat.le_refl h
      simpa using this
  unfold Btw at hx m5 ⊢
  left
  rcases (Rat.le_total : 0 ≤ x ∨ x ≤ 0) with h | h <;> rcases hx with ⟨h1, h2⟩ | ⟨h1, h2⟩
  · refine ⟨?_, by have := sq h h2; grind⟩
    rcases (Rat.le_total : 0 ≤ a ∨ a ≤ 0) with k | k
    · have := sq k h1; grind
    · have := m5 (.inl ⟨k, by grind⟩); grind
  · refine ⟨?_, by have := sq h h2; grind⟩
    rcases (Rat.le_total : 0 ≤ b ∨ b ≤ 0) with k | k
    · have := sq k h1; grind
    · have := m5 (.inr ⟨k, by grind⟩); grind
  · refine ⟨?_, by have := sqn h h1; grind⟩
    rcases (Rat.le_total : 0 ≤ b ∨ b ≤ 0) with k | k
    · have := m5 (.inl ⟨by grind, k⟩); grind
    · have := sqn k h2; grind
  · refine ⟨?_, by have := sqn h h1; grind⟩
    rcases (Rat.le_total : 0 ≤ a ∨ a ≤ 0) with k | k
    · have := m5 (.inr ⟨by grind, k⟩); grind
    · have := sqn k h2; grind

/-- The absolute value, as the code tells it. -/
def absQ (r : Rat) : Rat := if r.num < 0 then -r else r
theorem absQ_eq (r : Rat) : absQ r = if r < 0 then -r else r := by
  unfold absQ
  have h : 0 ≤ r.num ↔ 0 ≤ r := Rat.num_nonneg
  have : r.num < 0 ↔ r < 0 := by rw [← Int.not_le, h, Rat.not_le]
  simp [this]
theorem abs_in {a b x : Rat} (hx : Btw a b x) : Btw (lowOf (absQ a) (turnVals (hasQ a b 0) (absQ b) (absQ 0))) (highOf (absQ a) (turnVals (hasQ a b 0) (absQ b) (absQ 0))) (absQ x) := by
  have m1 := lowOf_le_head (absQ a) (turnVals (hasQ a b 0) (absQ b) (absQ 0))
  have m2 : lowOf (absQ a) (turnVals (hasQ a b 0) (absQ b) (absQ 0)) ≤ absQ b := lowOf_le_mem (by unfold turnVals; split <;> simp)
  have m3 := le_highOf_head (absQ a) (turnVals (hasQ a b 0) (absQ b) (absQ 0))
  have m4 : absQ b ≤ highOf (absQ a) (turnVals (hasQ a b 0) (absQ b) (absQ 0)) := le_highOf_mem (by unfold turnVals; split <;> simp)
  have m5 : Btw a b 0 → lowOf (absQ a) (turnVals (hasQ a b 0) (absQ b) (absQ 0)) ≤ absQ 0 := fun h => by
    have := (hasQ_iff a b 0).2 h
    exact lowOf_le_mem (by rw [this]; simp [turnVals])
  generalize lowOf (absQ a) (turnVals (hasQ a b 0) (absQ b) (absQ 0)) = l at *
  generalize highOf (absQ a) (turnVals (hasQ a b 0) (absQ b) (absQ 0)) = g at *
  simp only [absQ_eq] at *
  unfold Btw at *
  grind

theorem hull_low {a b c d x : Rat} (hx : Btw a b x) : Btw (lowOf a [b, c, d]) (highOf a [b, c, d]) x :=
  btw_trans hx (.inl ⟨lowOf_le_head _ _, le_highOf_head _ _⟩) (.inl ⟨lowOf_le_mem (by simp), le_highOf_mem (by simp)⟩)
theorem hull_high {a b c d x : Rat} (hx : Btw c d x) : Btw (lowOf a [b, c, d]) (highOf a [b, c, d]) x :=
  btw_trans hx (.inl ⟨lowOf_le_mem (by simp), le_highOf_mem (by simp)⟩) (.inl ⟨lowOf_le_mem (by simp), le_highOf_mem (by simp)⟩)

/-- The number at a place between the ends. -/
theorem place_in {a b k : Rat} (h0 : 0 ≤ k) (h1 : k ≤ 1) : Btw a b (a + (b - a) * k) := by
  unfold Btw
  rcases (Rat.le_total : a ≤ b ∨ b ≤ a) with h | h
  · left
    have h2 := Rat.mul_nonneg (a := b - a) (b := k) (by grind) h0
    have h3 := Rat.mul_nonneg (a := b - a) (b := 1 - k) (by grind) (by grind)
    grind
  · right
    have h2 := Rat.mul_nonneg (a := a - b) (b := k) (by grind) h0
    have h3 := Rat.mul_nonneg (a := a - b) (b := 1 - k) (by grind) (by grind)
    grind

theorem square_ends (a b : Rat) (P : Rat → Prop) (h1 : P (a * a)) (h2 : P (b * b)) (h3 : Btw a b 0 → P 0) :
    P (lowOf (a * a) (turnVals (hasQ a b 0) (b * b) (0 * 0))) ∧ P (highOf (a * a) (turnVals (hasQ a b 0) (b * b) (0 * 0))) := by
  have key : ∀ x, x = a * a ∨ x ∈ turnVals (hasQ a b 0) (b * b) (0 * 0) → P x := by
    intro x hx
    rcases hx with rfl | hx
    · exact h1
    · unfold turnVals at hx
      split at hx
      · rename_i hh
        have := (hasQ_iff a b 0).1 hh
        simp at hx
        rcases hx with rfl | rfl
        · exact h2
        · simpa using h3 this
      · simp at hx
        subst hx
        exact h2
  exact ⟨key _ (lowOf_mem _ _), key _ (highOf_mem _ _)⟩

theorem num_zero {a : Rat} : a.num = 0 ↔ a = 0 := Rat.num_eq_zero

/-- A quadratic's value at a number of a span lies between the least and the greatest of its values at the ends and at the turn. -/
theorem quad_in {a b c lo hi x : Rat} (hx : Btw lo hi x) : Btw (lowOf (quadAt a b c lo) (quadVals a b c lo hi)) (highOf (quadAt a b c lo) (quadVals a b c lo hi)) (quadAt a b c x) := by
  have e0 : Btw (lowOf (quadAt a b c lo) (quadVals a b c lo hi)) (highOf (quadAt a b c lo) (quadVals a b c lo hi)) (quadAt a b c lo) := .inl ⟨lowOf_le_head _ _, le_highOf_head _ _⟩
  have mem : ∀ {y}, y ∈ quadVals a b c lo hi → Btw (lowOf (quadAt a b c lo) (quadVals a b c lo hi)) (highOf (quadAt a b c lo) (quadVals a b c lo hi)) y := fun h => .inl ⟨lowOf_le_mem h, le_highOf_mem h⟩
  have e1 := mem (y := quadAt a b c hi) (by unfold quadVals turnVals; split; · simp
                                            · split <;> simp)
  by_cases ha : a.num = 0
  · refine btw_trans ?_ e0 e1
    have ha := num_zero.1 ha
    subst ha
    have := mono_mul_left b lo hi x hx
    unfold quadAt Btw at *
    simp only at this
    grind
  · have ht : Btw lo hi (turnOf a b) → Btw (lowOf (quadAt a b c lo) (quadVals a b c lo hi)) (highOf (quadAt a b c lo) (quadVals a b c lo hi)) (quadAt a b c (turnOf a b)) := fun h => mem (by
      have := (hasQ_iff lo hi (turnOf a b)).2 h
      unfold quadVals
      rw [if_neg ha, this]
      simp [turnVals])
    generalize lowOf (quadAt a b c lo) (quadVals a b c lo hi) = l at *
    generalize highOf (quadAt a b c lo) (quadVals a b c lo hi) = g at *
    have ha : ¬ a = 0 := fun h => ha (num_zero.2 h)
    obtain ⟨t, htt⟩ : ∃ t, t = turnOf a b := ⟨_, rfl⟩
    rw [← htt] at ht
    have hb : b = -(t * (a + a)) := by
      have h2 : a + a ≠ 0 := by grind
      rw [htt]
      unfold turnOf
      rw [Rat.mul_assoc, Rat.inv_mul_cancel _ h2]
      grind
    have hq : ∀ y, quadAt a b c y = a * ((y - t) * (y - t)) + quadAt a b c t := fun y => by unfold quadAt; rw [hb]; grind
    have hs : Btw (lo - t) (hi - t) (x - t) := mono_sub_left t lo hi x hx
    have h1 := square_in hs
    obtain ⟨p1, p2⟩ := square_ends (lo - t) (hi - t) (fun y => Btw l g (a * y + quadAt a b c t)) (by rw [← hq lo]; exact e0) (by rw [← hq hi]; exact e1) (fun h => by
      have h2 : Btw lo hi t := by
        unfold Btw at h ⊢
        grind
      have := ht h2
      have h3 : a * 0 + quadAt a b c t = quadAt a b c t := by grind
      rw [h3]; exact this)
    have h4 := mono_mul_right a _ _ _ h1
    have h5 := mono_add_left (quadAt a b c t) _ _ _ h4
    rw [hq x]
    exact btw_trans h5 p1 p2

theorem quad_ends {a b c lo hi y : Rat} (h : y = lowOf (quadAt a b c lo) (quadVals a b c lo hi) ∨ y = highOf (quadAt a b c lo) (quadVals a b c lo hi)) :
    y = quadAt a b c lo ∨ y = quadAt a b c hi ∨ (¬ a.num = 0 ∧ hasQ lo hi (turnOf a b) = true ∧ y = quadAt a b c (turnOf a b)) := by
  have key : ∀ y, y = quadAt a b c lo ∨ y ∈ quadVals a b c lo hi → y = quadAt a b c lo ∨ y = quadAt a b c hi ∨ (¬ a.num = 0 ∧ hasQ lo hi (turnOf a b) = true ∧ y = quadAt a b c (turnOf a b)) := by
    intro y hy
    rcases hy with rfl | hy
    · exact .inl rfl
    · unfold quadVals turnVals at hy
      split at hy
      · simp at hy; exact .inr (.inl hy)
      · rename_i ha
        split at hy
        · rename_i hh
          simp at hy
          rcases hy with h | h
          · exact .inr (.inl h)
          · exact .inr (.inr ⟨ha, hh, h⟩)
        · simp at hy; exact .inr (.inl hy)
  rcases h with rfl | rfl
  · exact key _ (lowOf_mem _ _)
  · exact key _ (highOf_mem _ _)

end Go.Proofs.YtccabfblgjcboaaGreatDoor

/- Span.Abs. -/
namespace Go.Proofs.YtccabfblgjcboaaGreatDoor
open Go Go.RowKit Go.Proofs Lim

theorem siz_absQ {r : Rat} {k : Nat} (h : Siz r k) : Siz (absQ r) k := by
  unfold absQ
  split
  · exact h.neg
  · exact h

theorem spabs_any (v : Value) (lo hi : Rat) (k : Nat) (w : World) (h : IsS w v lo hi) (z1 : Siz lo k) (z2 : Siz hi k) (hk : ((k + k : Nat) : Int) ≤ 1073741824) (hG : Gr w) :
    Calls Tryz.prog 60 #[v] w (SpNew w (lowOf (absQ lo) (turnVals (hasQ lo hi 0) (absQ hi) (absQ 0))) (highOf (absQ lo) (turnVals (hasQ lo hi 0) (absQ hi) (absQ 0)))) := by
  have k1 := siz_zero_bits k z1
  have z0 : Siz 0 k := Siz.zero k k1
  obtain ⟨s1, a1, b1, p1, s2, a2, b2, p2, rfl, i1, i2⟩ := h
  have HU := Lib.hid (fun bt ct W (hW : Below w.heap.size w W) c0 c1 c2 c3 => under_one 39 #[] #[] (enters_of Tryz.func39 (by kernel_rfl) rfl) s1 s2 a1 b1 a2 b2 p1 p2 lo hi 0 (absQ lo) (absQ hi) (absQ 0) (k + k) W
    bt 0 ct false 0 0 none (i1.below hW (Nat.le_refl _)) (i2.below hW (Nat.le_refl _)) (zero_val W) c0 c1 c2 c3
    (fun W' hW' => abs_q _ lo W' ((i1.below hW (Nat.le_refl _)).below hW' (Nat.le_refl _)))
    (fun W' hW' => abs_q _ hi W' ((i2.below hW (Nat.le_refl _)).below hW' (Nat.le_refl _)))
    (fun _ W' hW' => abs_q _ 0 W' (zero_val W'))
    (z1.le (by omega)) (z2.le (by omega)) (z0.le (by omega)) ((siz_absQ z1).le (by omega)) ((siz_absQ z2).le (by omega)) (fun _ => (siz_absQ z0).le (by omega)) hk)
  clear i1 i2 z1 z2 z0 k1 hk hG
  generalize lowOf (absQ lo) (turnVals (hasQ lo hi 0) (absQ hi) (absQ 0)) = l at *
  generalize highOf (absQ lo) (turnVals (hasQ lo hi 0) (absQ hi) (absQ 0)) = g at *
  go_enter Tryz.func60, Tryz.ntmps60
  go_wp2_with fail
  obtain ⟨W0, hW0, hb0, _, hz, hs⟩ := box8z w (.bool s1) (u a1) (u b1) (.pointer p1) (.bool s2) (u a2) (u b2) (.pointer p2)
  rw [hW0]
  have hb1 := below1 W0 (.cells #[.bool false, .int .u64 0, .int .u64 0, .pointer none] 26)
  rw [← hs]
  refine (HU.out _ 1 _ (chain1 hb0 hb1) (World.cell?_alloc_new ..) (World.cell?_alloc_new ..) (World.cell?_alloc_new ..) (World.cell?_alloc_new ..)).mono ?_
  rintro e W9 ⟨v, rfl, hv, hb⟩
  have hz9 : ZBox8 W9 (w.heap.size + 1) := Box8.below (Box8.below hz hb1 (Nat.le_refl _)) hb (Nat.le_refl _)
  have HB9 := Lib.hid (chain1 (chain1 hb0 hb1) hb)
  rw [hs]
  clear hb0 hz hs hW0 HU hb1
  (have hv' := hv; obtain ⟨t1, d1, e1, q1, t2, d2, e2, q2, rfl, _, _⟩ := hv'; have HFin := Lib.hid (SpNew.stored (Box8.nbox hz9) hv HB9.out (by omega) (.bool t1) (u d1) (u e1) (.pointer q1) (.bool t2) (u d2) (u e2) (.pointer q2)); (obtain ⟨z0, z1, z2, z3, z4, z5, z6, z7⟩ := Box8.cells hz9; have zf0 := Box8.frozen hz9 0; have zf1 := Box8.frozen hz9 1; have zf2 := Box8.frozen hz9 2; have zf3 := Box8.frozen hz9 3; have zf4 := Box8.frozen hz9 4; have zf5 := Box8.frozen hz9 5; have zf6 := Box8.frozen hz9 6; have zf7 := Box8.frozen hz9 7); clear hv hz9; clear hb; go_wp2_with fail; refine bodyPost_ret (v := .agg #[.bool t1, u d1, u e1, .pointer q1, .bool t2, u d2, u e2, .pointer q2]) (by simp [results, Tryz.results60, go_sem, z0, z1, z2, z3, z4, z5, z6, z7]) rfl ?_; exact HFin.out)

end Go.Proofs.YtccabfblgjcboaaGreatDoor

/- Span.Over: the span of quotients, or the error. -/
namespace Go.Proofs.YtccabfblgjcboaaGreatDoor
open Go Go.RowKit Go.Proofs Lim

set_option maxHeartbeats 1000000 in
theorem over1_q (v1 v2 : Value) (r s : Rat) (k : Nat) (w : World) (h1 : IsQ w v1 r) (h2 : IsQ w v2 s) (h0 : s.num ≠ 0) (z1 : Siz r k) (z2 : Siz s k) (hk : (k : Int) ≤ 1073741824) (hG : Gr w) :
    Calls Tryz.prog 111 #[v1, v2] w (QNew w (r * s⁻¹)) := by
  have HN := Lib.hid (fun W (hW : Below w.heap.size w W) => recip_q v2 s W (h2.below hW (Nat.le_refl _)) h0)
  have HP := Lib.hid (fun v W (hv : IsQ W v s⁻¹) (hW : Below w.heap.size w W) => times_q v1 v r s⁻¹ k W (h1.below hW (Nat.le_refl _)) hv z1 (z2.inv h0) hk (hG.below hW hG.size))
  obtain ⟨neg1, a1, b1, p1, rfl⟩ := h1.form
  obtain ⟨neg2, a2, b2, p2, rfl⟩ := h2.form
  clear h1 h2 h0 z1 z2 hk hG
  generalize r * s⁻¹ = t at *
  generalize s⁻¹ = s' at *
  go_enter Tryz.func111, Tryz.ntmps111
  go_wp2_with fail
  obtain ⟨W0, hW0, hb0, ⟨f0, f1, f2, f3⟩, ⟨g0, g1, g2, g3⟩, hz⟩ := box3 w (.bool neg1) (u a1) (u b1) (.pointer p1) (.bool neg2) (u a2) (u b2) (.pointer p2); rw [← hW0]; clear hW0; have HZ := Lib.hid hz; have HW0 := Lib.hid hb0; have hb0 := Below.refl W0.heap.size W0; clear hz
  have n1 : ¬ w.heap.size = w.heap.size + 1 + 1 := by omega
  have n2 : ¬ w.heap.size + 1 + 1 = w.heap.size := by omega
  have n3 : w.heap.size ≠ w.heap.size + 1 + 1 := by omega
  go_region_held3 (fun w' => (w'.cell? ⟨w.heap.size, 0, none⟩ = some (.bool neg1) ∧ w'.cell? ⟨w.heap.size, 1, none⟩ = some (u a1) ∧ w'.cell? ⟨w.heap.size, 2, none⟩ = some (u b1) ∧ w'.cell? ⟨w.heap.size, 3, none⟩ = some (.pointer p1)) ∧ (w'.cell? ⟨w.heap.size + 1, 0, none⟩ = some (.bool neg2) ∧ w'.cell? ⟨w.heap.size + 1, 1, none⟩ = some (u a2) ∧ w'.cell? ⟨w.heap.size + 1, 2, none⟩ = some (u b2) ∧ w'.cell? ⟨w.heap.size + 1, 3, none⟩ = some (.pointer p2))) (go_keep) (first | ((with_reducible refine (HN.out _ ((chain1 HW0.out hb0).drew)).mono ?_); rintro e W1 ⟨vn, rfl, hvn, hb⟩; (obtain ⟨_, _, _, _⟩ := boxq (b := w.heap.size) hb (by assumption) (by assumption) (by assumption) (by assumption); obtain ⟨_, _, _, _⟩ := boxq (b := w.heap.size + 1) hb (by assumption) (by assumption) (by assumption) (by assumption)); obtain ⟨_, _, _, _, rfl⟩ := hvn.form) | ((with_reducible refine (HP.out _ _ hvn (chain1 HW0.out (chain hb0 hb))).mono ?_); rintro e W9 ⟨v, rfl, hv, hb'⟩; (obtain ⟨_, _, _, _⟩ := boxq (b := w.heap.size) hb' (by assumption) (by assumption) (by assumption) (by assumption); obtain ⟨_, _, _, _⟩ := boxq (b := w.heap.size + 1) hb' (by assumption) (by assumption) (by assumption) (by assumption)); have hv' := hv; obtain ⟨sg9, a9, b9, p9, rfl⟩ := hv'.form; have hb3 := chain1 (chain hb0 hb) hb'; (have hz := HZ.out.below hb3 (Nat.le_refl _); have zf := hz.frozen; obtain ⟨z0, z1, z2, z3⟩ := hz.cells; have zf0 := zf 0; have zf1 := zf 1; have zf2 := zf 2; have zf3 := zf 3; clear zf hz)))
  have hz := HZ.out.below hb3 (Nat.le_refl _)
  have hfin := QNew.stored (a0 := .bool sg9) (a1 := u a9) (a2 := u b9) (a3 := .pointer p9) hz hv (chain1 HW0.out hb3) (by omega)
  have HFin := Lib.hid hfin
  clear hfin hv hv' hvn hb hb' hb0 hb3 hz f0 f1 f2 f3 g0 g1 g2 g3
  go_wp2_with fail
  refine bodyPost_ret (v := .agg #[.bool sg9, u a9, u b9, .pointer p9]) (by simp [results, Tryz.results111, go_sem, z0, z1, z2, z3]) rfl ?_
  exact HFin.out


/-- No number of a span without 0 is 0. -/
theorem num_of_has {c d s : Rat} (h : hasQ c d 0 = false) (hs : s = c ∨ s = d) : s.num ≠ 0 := by
  intro e
  have e := num_zero.1 e
  have := hasQ_false h
  rcases hs with rfl | rfl
  · rw [e] at this; exact this (Btw.left _ _)
  · rw [e] at this; exact this (Btw.right _ _)

/-- What Over leaves where the divisor has no 0. -/
def OverS (w : World) (lo hi : Rat) (e : Ending) (w' : World) : Prop := ∃ v, e = .returned (.tuple #[v, .int .i64 0]) ∧ IsS w' v lo hi ∧ Below w.heap.size w w'

set_option maxHeartbeats 2000000 in
theorem spover_any (v1 v2 : Value) (a b c d : Rat) (k : Nat) (w : World) (h1 : IsS w v1 a b) (h2 : IsS w v2 c d) (h0 : hasQ c d 0 = false) (za : Siz a k) (zb : Siz b k) (zc : Siz c k) (zd : Siz d k) (hk : ((k + k : Nat) : Int) ≤ 1073741824) (hG : Gr w) :
    Calls Tryz.prog 64 #[v1, v2] w (OverS w (wLow (fun r s => r * s⁻¹) a b c d) (wHigh (fun r s => r * s⁻¹) a b c d)) := by
  have HW := Lib.hid (fun W (hW : Below w.heap.size w W) => with_op 111 (enters_of Tryz.func111 (by kernel_rfl) rfl) (fun r s => r * s⁻¹) v1 v2 a b c d k (k + k) W
    (fun x y r s W' hx hy _ hs z1 z2 hW' => over1_q x y r s k W' hx hy (num_of_has h0 hs) z1 z2 (by omega) ((hG.below hW hG.size).below hW' (Nat.le_trans hG.size hW.size))) (fun r s _ hs z1 z2 => z1.mul (z2.inv (num_of_has h0 hs))) (h1.below hW (Nat.le_refl _)) (h2.below hW (Nat.le_refl _)) za zb zc zd (by omega))
  have HH := Lib.hid (fun vz W (hW : Below w.heap.size w W) (hz : IsQ W vz 0) => has_any v2 vz c d 0 k W (h2.below hW (Nat.le_refl _)) hz zc zd (Siz.zero k (siz_zero_bits k za)) (by omega))
  rw [h0] at HH
  obtain ⟨s1, a1, b1, p1, s2, a2, b2, p2, rfl, _, _⟩ := h1
  obtain ⟨s3, a3, b3, p3, s4, a4, b4, p4, rfl, _, _⟩ := h2
  clear za zb zc zd hk hG h0
  generalize wLow (fun r s => r * s⁻¹) a b c d = lo at *
  generalize wHigh (fun r s => r * s⁻¹) a b c d = hi at *
  go_enter Tryz.func64, Tryz.ntmps64
  go_wp2_with fail
  obtain ⟨W0, hW0, hb0, hX, hY, hz, hs⟩ := box88z w (.bool s1) (u a1) (u b1) (.pointer p1) (.bool s2) (u a2) (u b2) (.pointer p2) (.bool s3) (u a3) (u b3) (.pointer p3) (.bool s4) (u a4) (u b4) (.pointer p4)
  rw [hW0]
  refine (HH.out _ _ hb0 (zero_val _)).mono ?_
  rintro e W1 ⟨rfl, hb⟩
  have hX := Box8.below hX hb (Nat.le_refl _)
  have hY := Box8.below hY hb (Nat.le_refl _)
  have HZ := Lib.hid (Box8.below hz hb (Nat.le_refl _))
  have HB := Lib.hid (chain1 hb0 hb)
  (obtain ⟨c0, c1, c2, c3, c4, c5, c6, c7⟩ := hX.cells)
  (obtain ⟨d0, d1, d2, d3, d4, d5, d6, d7⟩ := hY.cells)
  clear hX hY hz hs hW0 hb0 hb HH
  go_wp2_with fail
  refine (HW.out _ HB.out).mono ?_
  rintro e W9 ⟨v, rfl, hv, hb⟩
  have hz9 : ZBox8 W9 (w.heap.size + 1 + 1) := Box8.below HZ.out hb (Nat.le_refl _)
  have HB9 := Lib.hid (chain1 HB.out hb)
  clear c0 c1 c2 c3 c4 c5 c6 c7 d0 d1 d2 d3 d4 d5 d6 d7 hb
  have hv' := hv
  obtain ⟨t1, d1, e1, q1, t2, d2, e2, q2, rfl, _, _⟩ := hv'
  have HFin := Lib.hid (SpNew.stored (Box8.nbox hz9) hv HB9.out (by omega) (.bool t1) (u d1) (u e1) (.pointer q1) (.bool t2) (u d2) (u e2) (.pointer q2))
  (obtain ⟨z0, z1, z2, z3, z4, z5, z6, z7⟩ := Box8.cells hz9; have zf0 := Box8.frozen hz9 0; have zf1 := Box8.frozen hz9 1; have zf2 := Box8.frozen hz9 2; have zf3 := Box8.frozen hz9 3; have zf4 := Box8.frozen hz9 4; have zf5 := Box8.frozen hz9 5; have zf6 := Box8.frozen hz9 6; have zf7 := Box8.frozen hz9 7)
  clear hv hz9
  go_wp2_with fail
  refine bodyPost_ret (v := .tuple #[.agg #[.bool t1, u d1, u e1, .pointer q1, .bool t2, u d2, u e2, .pointer q2], .int .i64 0]) (by simp [results, Tryz.results64, go_sem, z0, z1, z2, z3, z4, z5, z6, z7]) rfl ?_
  obtain ⟨v, hv, hq, hbb⟩ := HFin.out
  injection hv with hv
  subst hv
  exact ⟨_, rfl, hq, hbb⟩

/-- The zero value of a span. -/
abbrev zspan : Value := .agg #[.bool false, .int .u64 0, .int .u64 0, .pointer none, .bool false, .int .u64 0, .int .u64 0, .pointer none]
theorem zspan_is (w : World) : IsS w zspan 0 0 := ⟨_, 0, 0, _, _, 0, 0, _, rfl, zero_val w, zero_val w⟩

theorem store8 {w W0 W : World} {R : Nat} (h0 : Below w.heap.size w W0) (h : Below W0.heap.size W0 W) (hR : w.heap.size ≤ R) (d0 d1 d2 d3 d4 d5 d6 d7 : Value) :
    Below w.heap.size w ((((((((W.setCell ⟨R, 0, none⟩ d0).setCell ⟨R, 1, none⟩ d1).setCell ⟨R, 2, none⟩ d2).setCell ⟨R, 3, none⟩ d3).setCell ⟨R, 4, none⟩ d4).setCell ⟨R, 5, none⟩ d5).setCell ⟨R, 6, none⟩ d6).setCell ⟨R, 7, none⟩ d7) :=
  (chain1 h0 h).trans ((only8 W R d0 d1 d2 d3 d4 d5 d6 d7).below hR)

set_option maxHeartbeats 2000000 in
theorem spover_zero (v1 v2 : Value) (a b c d : Rat) (k : Nat) (w : World) (h1 : IsS w v1 a b) (h2 : IsS w v2 c d) (h0 : hasQ c d 0 = true) (zc : Siz c k) (zd : Siz d k) (hk : (k : Int) ≤ 1073741824) :
    Calls Tryz.prog 64 #[v1, v2] w (fun e w' => e = .returned (.tuple #[zspan, .int .i64 10]) ∧ Below w.heap.size w w') := by
  have HH := Lib.hid (fun vz W (hW : Below w.heap.size w W) (hz : IsQ W vz 0) => has_any v2 vz c d 0 k W (h2.below hW (Nat.le_refl _)) hz zc zd (Siz.zero k (siz_zero_bits k zc)) hk)
  rw [h0] at HH
  obtain ⟨s1, a1, b1, p1, s2, a2, b2, p2, rfl, _, _⟩ := h1
  obtain ⟨s3, a3, b3, p3, s4, a4, b4, p4, rfl, _, _⟩ := h2
  clear zc zd hk h0
  go_enter Tryz.func64, Tryz.ntmps64
  go_wp2_with fail
  obtain ⟨W0, hW0, hb0, hX, hY, hz, hs⟩ := box88z w (.bool s1) (u a1) (u b1) (.pointer p1) (.bool s2) (u a2) (u b2) (.pointer p2) (.bool s3) (u a3) (u b3) (.pointer p3) (.bool s4) (u a4) (u b4) (.pointer p4)
  rw [hW0]
  refine (HH.out _ _ hb0 (zero_val _)).mono ?_
  rintro e W1 ⟨rfl, hb⟩
  have hz9 : ZBox8 W1 (w.heap.size + 1 + 1) := Box8.below hz hb (Nat.le_refl _)
  have HB := Lib.hid hb
  have HB0 := Lib.hid hb0
  (obtain ⟨z0, z1, z2, z3, z4, z5, z6, z7⟩ := Box8.cells hz9; have zf0 := Box8.frozen hz9 0; have zf1 := Box8.frozen hz9 1; have zf2 := Box8.frozen hz9 2; have zf3 := Box8.frozen hz9 3; have zf4 := Box8.frozen hz9 4; have zf5 := Box8.frozen hz9 5; have zf6 := Box8.frozen hz9 6; have zf7 := Box8.frozen hz9 7)
  clear hX hY hz hs hW0 hb0 hb HH hz9
  go_wp2_with fail
  refine bodyPost_ret (v := .tuple #[zspan, .int .i64 10]) (by simp [results, Tryz.results64, go_sem, z0, z1, z2, z3, z4, z5, z6, z7]) rfl ?_
  exact ⟨rfl, store8 HB0.out HB.out (by omega) _ _ _ _ _ _ _ _⟩

end Go.Proofs.YtccabfblgjcboaaGreatDoor

/- The closed numbers of the examples. -/
namespace Go.Proofs.YtccabfblgjcboaaGreatDoor
open Go Go.RowKit Go.Proofs Lim

theorem nt_small : ntext 0 = [48] ∧ ntext 1 = [49] ∧ ntext 2 = [50] ∧ ntext 3 = [51] ∧ ntext 4 = [52] ∧ ntext 8 = [56] := by
  refine ⟨?_, ?_, ?_, ?_, ?_, ?_⟩ <;> simp [ntext, digs_pos, digs_zero, dbyte]

theorem qtext_of {r : Rat} {i : Int} {d : Nat} (h1 : r.num = i) (h2 : r.den = d) : qtext r = (if i < 0 then [45] else []) ++ ntext i.natAbs ++ (if d = 1 then [] else 47 :: ntext d) := by
  unfold qtext
  rw [h1, h2]

abbrev qi (i : Int) : Rat := (i : Rat)

theorem kx : qtext (qi 6 / qi (-4)) = [45, 51, 47, 50] := by
  rw [qtext_of (i := -3) (d := 2) (by kernel_rfl) (by kernel_rfl)]
  show [45] ++ ntext 3 ++ (47 :: ntext 2) = _
  rw [nt_small.2.2.2.1, nt_small.2.2.1]; rfl
theorem kxf : qtext (((qi 6 / qi (-4)).floor : Int) : Rat) = [45, 50] := by
  rw [show (qi 6 / qi (-4)).floor = -2 by kernel_rfl, qtext_of (i := -2) (d := 1) rfl rfl]
  show [45] ++ ntext 2 ++ [] = _
  rw [nt_small.2.2.1]; rfl
theorem kxc : qtext (((qi 6 / qi (-4)).ceil : Int) : Rat) = [45, 49] := by
  rw [show (qi 6 / qi (-4)).ceil = -1 by kernel_rfl, qtext_of (i := -1) (d := 1) rfl rfl]
  show [45] ++ ntext 1 ++ [] = _
  rw [nt_small.2.1]; rfl
theorem kread : readQ [54, 47, 52] = (0, 4) := by
  refine (readQ_some (r := mkRat 3 2) (by decide) (by kernel_rfl)).trans (if_neg ?_)
  rw [qtext_of (i := 3) (d := 2) (by kernel_rfl) (by kernel_rfl)]
  show ¬ ([] ++ ntext 3 ++ (47 :: ntext 2) = _)
  rw [nt_small.2.2.2.1, nt_small.2.2.1]
  decide

/-- s is the span from -1 to 2, t that of its products with 3 to 4. -/
theorem ks : lowOf (qi 2) [qi (-1)] = qi (-1) ∧ highOf (qi 2) [qi (-1)] = qi 2 := ⟨by kernel_rfl, by kernel_rfl⟩
theorem kr : lowOf (qi 3) [qi 4] = qi 3 ∧ highOf (qi 3) [qi 4] = qi 4 := ⟨by kernel_rfl, by kernel_rfl⟩
theorem kv : lowOf (qi 0) [qi 3] = qi 0 ∧ highOf (qi 0) [qi 3] = qi 3 := ⟨by kernel_rfl, by kernel_rfl⟩
theorem kt : wLow (fun r s => r * s) (qi (-1)) (qi 2) (qi 3) (qi 4) = qi (-4) ∧ wHigh (fun r s => r * s) (qi (-1)) (qi 2) (qi 3) (qi 4) = qi 8 := ⟨by kernel_rfl, by kernel_rfl⟩
theorem kq : lowOf (qi (-1) * qi (-1)) (turnVals (hasQ (qi (-1)) (qi 2) 0) (qi 2 * qi 2) (0 * 0)) = qi 0 := by kernel_rfl
theorem ku : lowOf (quadAt (qi 1) (qi (-2)) (qi 0) (qi 0)) (quadVals (qi 1) (qi (-2)) (qi 0) (qi 0) (qi 3)) = qi (-1) ∧ highOf (quadAt (qi 1) (qi (-2)) (qi 0) (qi 0)) (quadVals (qi 1) (qi (-2)) (qi 0) (qi 0) (qi 3)) = qi 3 := ⟨by kernel_rfl, by kernel_rfl⟩

theorem kt4 : qtext (qi (-4)) = [45, 52] := by
  rw [qtext_of (i := -4) (d := 1) rfl rfl]
  show [45] ++ ntext 4 ++ [] = _
  rw [nt_small.2.2.2.2.1]; rfl
theorem kt8 : qtext (qi 8) = [56] := by
  rw [qtext_of (i := 8) (d := 1) rfl rfl]
  show [] ++ ntext 8 ++ [] = _
  rw [nt_small.2.2.2.2.2]; rfl
theorem kt0 : qtext (qi 0) = [48] := by
  rw [qtext_of (i := 0) (d := 1) rfl rfl]
  show [] ++ ntext 0 ++ [] = _
  rw [nt_small.1]; rfl
theorem kt1 : qtext (qi (-1)) = [45, 49] := by
  rw [qtext_of (i := -1) (d := 1) rfl rfl]
  show [45] ++ ntext 1 ++ [] = _
  rw [nt_small.2.1]; rfl
theorem kt3 : qtext (qi 3) = [51] := by
  rw [qtext_of (i := 3) (d := 1) rfl rfl]
  show [] ++ ntext 3 ++ [] = _
  rw [nt_small.2.2.2.1]; rfl

theorem siz_qi (i : Int) (h1 : -9223372036854775808 ≤ i) (h2 : i ≤ 9223372036854775807) : Siz (qi i) 1 := siz_int i h1 h2

end Go.Proofs.YtccabfblgjcboaaGreatDoor

/- known: the examples of the document. -/
namespace Go.Proofs.YtccabfblgjcboaaGreatDoor
open Go Go.RowKit Go.Proofs Lim

theorem newbox8 (w : World) (c0 c1 c2 c3 c4 c5 c6 c7 : Value) : ∃ W, w.alloc (.cells #[c0, c1, c2, c3, c4, c5, c6, c7] 66) = W ∧ Below w.heap.size w W ∧ Box8 W w.heap.size c0 c1 c2 c3 c4 c5 c6 c7 :=
  ⟨_, rfl, below1 w _, Box8.new w c0 c1 c2 c3 c4 c5 c6 c7⟩

/-- A new box of a span behind w0. -/
def ZAt (w0 W : World) (m : Nat) : Prop := w0.heap.size ≤ m ∧ ZBox8 W m

theorem ZAt.keep {w0 W W' : World} {m : Nat} (h : ZAt w0 W m) (hb : Below W.heap.size W W') : ZAt w0 W' m := ⟨h.1, Box8.below h.2 hb (Nat.le_refl _)⟩
theorem ZAt.new {w0 W W' : World} (hb0 : Below w0.heap.size w0 W) (hb : Below (W.alloc (.cells #[.bool false, .int .u64 0, .int .u64 0, .pointer none, .bool false, .int .u64 0, .int .u64 0, .pointer none] 66)).heap.size (W.alloc (.cells #[.bool false, .int .u64 0, .int .u64 0, .pointer none, .bool false, .int .u64 0, .int .u64 0, .pointer none] 66)) W') : ZAt w0 W' W.heap.size :=
  ⟨hb0.size, Box8.below (Box8.new W _ _ _ _ _ _ _ _) hb (Nat.le_refl _)⟩

theorem ZAt.drew {w0 W W' : World} (hb0 : Below w0.heap.size w0 W) (hb : Below (W.alloc (.cells #[.bool false, .int .u64 0, .int .u64 0, .pointer none, .bool false, .int .u64 0, .int .u64 0, .pointer none] 66)).drew.heap.size (W.alloc (.cells #[.bool false, .int .u64 0, .int .u64 0, .pointer none, .bool false, .int .u64 0, .int .u64 0, .pointer none] 66)).drew W') : ZAt w0 W' W.heap.size :=
  ⟨hb0.size, Box8.below (W := (W.alloc (.cells #[.bool false, .int .u64 0, .int .u64 0, .pointer none, .bool false, .int .u64 0, .int .u64 0, .pointer none] 66)).drew) (show Box8 (W.alloc (.cells #[.bool false, .int .u64 0, .int .u64 0, .pointer none, .bool false, .int .u64 0, .int .u64 0, .pointer none] 66)) _ _ _ _ _ _ _ _ _ from Box8.new W _ _ _ _ _ _ _ _) hb (Nat.le_refl _)⟩

/-- What a drawn statement t := ... of a span leaves. -/
def KBox (w0 : World) (lo hi : Rat) (s : Value) (wx : World) : Prop := ∃ m t1 ta tb tp t2 tc td tq, s = .pointer (some ⟨m, 0, none⟩) ∧ Box8 wx m (.bool t1) (u ta) (u tb) (.pointer tp) (.bool t2) (u tc) (u td) (.pointer tq) ∧
  IsQ wx (.agg #[.bool t1, u ta, u tb, .pointer tp]) lo ∧ IsQ wx (.agg #[.bool t2, u tc, u td, .pointer tq]) hi ∧ Below w0.heap.size w0 wx

theorem KBox.stored {w0 W : World} {R : Nat} {lo hi : Rat} {t1 t2 : Bool} {ta tb tc td : Nat} {tp tq : Option Addr} (hR : ZAt w0 W R) (h : IsS W (.agg #[.bool t1, u ta, u tb, .pointer tp, .bool t2, u tc, u td, .pointer tq]) lo hi) (hb : Below w0.heap.size w0 W) :
    KBox w0 lo hi (.pointer (some ⟨R, 0, none⟩)) ((((((((W.setCell ⟨R, 0, none⟩ (.bool t1)).setCell ⟨R, 1, none⟩ (u ta)).setCell ⟨R, 2, none⟩ (u tb)).setCell ⟨R, 3, none⟩ (.pointer tp)).setCell ⟨R, 4, none⟩ (.bool t2)).setCell ⟨R, 5, none⟩ (u tc)).setCell ⟨R, 6, none⟩ (u td)).setCell ⟨R, 7, none⟩ (.pointer tq)) := by
  have ho := only8 W R (.bool t1) (u ta) (u tb) (.pointer tp) (.bool t2) (u tc) (u td) (.pointer tq)
  obtain ⟨_, _, _, _, _, _, _, _, he, h1, h2⟩ := h
  simp only [Value.agg.injEq, Array.mk.injEq, List.cons.injEq, and_true] at he
  obtain ⟨e1, e2, e3, e4, e5, e6, e7, e8⟩ := he
  rw [← e1, ← e2, ← e3, ← e4] at h1
  rw [← e5, ← e6, ← e7, ← e8] at h2
  exact ⟨R, t1, ta, tb, tp, t2, tc, td, tq, rfl, Box8.setHigh (Box8.setLow hR.2 _ _ _ _) _ _ _ _, h1.other (Box8.nbox hR.2) ho, h2.other (Box8.nbox hR.2) ho, hb.trans (ho.below hR.1)⟩

theorem KBox.fresh {w0 W : World} {lo hi : Rat} {t1 t2 : Bool} {ta tb tc td : Nat} {tp tq : Option Addr} (h : IsS W (.agg #[.bool t1, u ta, u tb, .pointer tp, .bool t2, u tc, u td, .pointer tq]) lo hi) (hb : Below w0.heap.size w0 W) :
    KBox w0 lo hi (.pointer (some ⟨W.heap.size, 0, none⟩)) (W.alloc (.cells #[.bool t1, u ta, u tb, .pointer tp, .bool t2, u tc, u td, .pointer tq] 66)) := by
  obtain ⟨_, _, _, _, _, _, _, _, he, h1, h2⟩ := h
  simp only [Value.agg.injEq, Array.mk.injEq, List.cons.injEq, and_true] at he
  obtain ⟨e1, e2, e3, e4, e5, e6, e7, e8⟩ := he
  rw [← e1, ← e2, ← e3, ← e4] at h1
  rw [← e5, ← e6, ← e7, ← e8] at h2
  exact ⟨W.heap.size, t1, ta, tb, tp, t2, tc, td, tq, rfl, Box8.new W _ _ _ _ _ _ _ _, h1.below (below1 W _) (Nat.le_refl _), h2.below (below1 W _) (Nat.le_refl _), chain1 hb (below1 W _)⟩

theorem field_low (s1 s2 : Bool) (a b c d : Nat) (p q : Option Addr) (W : World) : (Instr.field 66 (.agg #[.bool s1, u a, u b, .pointer p, .bool s2, u c, u d, .pointer q]) 0).run Tryz.prog W = .ok (.agg #[.bool s1, u a, u b, .pointer p]) W := by kernel_rfl

end Go.Proofs.YtccabfblgjcboaaGreatDoor

/- known: the examples of the document. -/
namespace Go.Proofs.YtccabfblgjcboaaGreatDoor
open Go Go.RowKit Go.Proofs Lim

set_option maxHeartbeats 2000000 in
theorem known_any (w : World) (hG : Gr w) : Calls Tryz.prog 10 #[] w (Val w (.bool true)) := by
  have HG := Lib.hid (fun W (hW : Below w.heap.size w W) => hG.below hW hG.size)
  clear hG
  have HOf := Lib.hid (fun W hG => of_q 6 (-4) (by decide) (by decide) (by decide) (by decide) W hG)
  have HRd := Lib.hid (fun W hG => show Calls Tryz.prog 11 #[.string ⟨#[54, 47, 52]⟩] W (ReadPost W [54, 47, 52]) from read_any [54, 47, 52] W (by decide) hG)
  go_enter Tryz.func10, Tryz.ntmps10
  go_wp2_with fail
  refine (HOf.out _ (HG.out _ (Below.refl _ _))).mono ?_
  rintro e W1 (⟨h0, _⟩ | ⟨_, vx, rfl, hx, hb⟩)
  · exact absurd h0 (by decide)
  have HA1 := Lib.hid hb
  have HX := Lib.hid hx
  obtain ⟨sx, ax, bx, px, rfl⟩ := hx.form
  clear hb hx HOf
  go_wp2_with fail
  obtain ⟨W2, hW, hb, ⟨f0, f1, f2, f3⟩⟩ := box1 W1 (.bool sx) (u ax) (u bx) (.pointer px); rw [← hW]; clear hW
  have HA2 := Lib.hid (chain1 HA1.out hb)
  have HX := Lib.hid (HX.out.below hb (Nat.le_refl _))
  clear hb HA1
  generalize W1.heap.size = n1 at *
  refine (HRd.out _ (HG.out _ HA2.out)).mono ?_
  rintro e W3 ⟨v0, rfl, h0, hb⟩
  (have hh := boxq (b := n1) hb f0 f1 f2 f3; clear f0 f1 f2 f3; obtain ⟨f0, f1, f2, f3⟩ := hh)
  rw [kread] at h0 ⊢
  obtain ⟨s0, a0, b0, p0, rfl⟩ := h0.form
  have HA3 := Lib.hid (chain1 HA2.out hb)
  have HX := Lib.hid (HX.out.below hb (Nat.le_refl _))
  clear hb HA2 HRd h0
  have l1 : n1 < W3.heap.size := World.block_lt_of_cell? W3 _ f0
  go_wp2_with fail
  -- REST
  have hb := below1 W3 (.cells #[.bool s0, u a0, u b0, .pointer p0] 26)
  obtain ⟨W4, hW⟩ : ∃ W, W3.alloc (.cells #[.bool s0, u a0, u b0, .pointer p0] 26) = W := ⟨_, rfl⟩
  rw [hW] at hb ⊢
  clear hW l1
  have HX := Lib.hid (HX.out.below hb (Nat.le_refl _))
  (have hh := boxq (b := n1) hb f0 f1 f2 f3; clear f0 f1 f2 f3; obtain ⟨f0, f1, f2, f3⟩ := hh)
  have HA4 := Lib.hid (chain1 HA3.out hb)
  clear hb HA3
  have kz : Siz (qi 6 / qi (-4)) 2 := (siz_qi 6 (by decide) (by decide)).div (siz_qi (-4) (by decide) (by decide)) (by decide)
  have HTx := Lib.hid (fun v W (hv : IsQ W v (qi 6 / qi (-4))) => (kx ▸ text_q v _ 2 W hv kz (by decide) : Calls Tryz.prog 14 #[v] W (StrNew W [45, 51, 47, 50])))
  have HFl := Lib.hid (fun v W (hv : IsQ W v (qi 6 / qi (-4))) hG => floor_q v _ 2 W hv kz (by decide) (by decide) hG)
  have HCe := Lib.hid (fun v W (hv : IsQ W v (qi 6 / qi (-4))) hG => ceil_q v _ 2 W hv kz (by decide) (by decide) hG)
  have HTf := Lib.hid (fun v W (hv : IsQ W v (((qi 6 / qi (-4)).floor : Int) : Rat)) => (kxf ▸ text_q v _ 1 W hv (siz_int _ (by rw [show (qi 6 / qi (-4)).floor = -2 by kernel_rfl]; decide) (by rw [show (qi 6 / qi (-4)).floor = -2 by kernel_rfl]; decide)) (by decide) : Calls Tryz.prog 14 #[v] W (StrNew W [45, 50])))
  have HTc := Lib.hid (fun v W (hv : IsQ W v (((qi 6 / qi (-4)).ceil : Int) : Rat)) => (kxc ▸ text_q v _ 1 W hv (siz_int _ (by rw [show (qi 6 / qi (-4)).ceil = -1 by kernel_rfl]; decide) (by rw [show (qi 6 / qi (-4)).ceil = -1 by kernel_rfl]; decide)) (by decide) : Calls Tryz.prog 14 #[v] W (StrNew W [45, 49])))
  clear kz
  refine (HTx.out _ _ HX.out).mono ?_
  rintro e W5 ⟨rfl, hb⟩
  have HX := Lib.hid (HX.out.below hb (Nat.le_refl _))
  (have hh := boxq (b := n1) hb f0 f1 f2 f3; clear f0 f1 f2 f3; obtain ⟨f0, f1, f2, f3⟩ := hh)
  have HA5 := Lib.hid (chain1 HA4.out hb)
  clear hb HA4
  go_wp2_with fail
  refine (HFl.out _ _ HX.out (HG.out _ HA5.out)).mono ?_
  rintro e W6 ⟨vf, rfl, hvf, hb⟩
  have HX := Lib.hid (HX.out.below hb (Nat.le_refl _))
  (have hh := boxq (b := n1) hb f0 f1 f2 f3; clear f0 f1 f2 f3; obtain ⟨f0, f1, f2, f3⟩ := hh)
  have HA6 := Lib.hid (chain1 HA5.out hb)
  have HVF := Lib.hid hvf
  obtain ⟨_, _, _, _, rfl⟩ := hvf.form
  clear hvf
  clear hb HA5
  go_wp2_with fail
  refine (HTf.out _ _ HVF.out).mono ?_
  rintro e W7 ⟨rfl, hb⟩
  have HX := Lib.hid (HX.out.below hb (Nat.le_refl _))
  (have hh := boxq (b := n1) hb f0 f1 f2 f3; clear f0 f1 f2 f3; obtain ⟨f0, f1, f2, f3⟩ := hh)
  have HA7 := Lib.hid (chain1 HA6.out hb)
  clear hb HA6
  go_wp2_with fail
  refine (HCe.out _ _ HX.out (HG.out _ HA7.out)).mono ?_
  rintro e W8 ⟨vc, rfl, hvc, hb⟩
  have HX := Lib.hid (HX.out.below hb (Nat.le_refl _))
  (have hh := boxq (b := n1) hb f0 f1 f2 f3; clear f0 f1 f2 f3; obtain ⟨f0, f1, f2, f3⟩ := hh)
  have HA8 := Lib.hid (chain1 HA7.out hb)
  have HVC := Lib.hid hvc
  obtain ⟨_, _, _, _, rfl⟩ := hvc.form
  clear hvc
  clear hb HA7
  go_wp2_with fail
  refine (HTc.out _ _ HVC.out).mono ?_
  rintro e W9 ⟨rfl, hb⟩
  have HA9 := Lib.hid (chain1 HA8.out hb)
  clear hb HA8
  clear f0 f1 f2 f3 HX HVF HVC HTx HFl HCe HTf HTc
  go_wp2_with fail
  have HI := Lib.hid (fun W => int_q (2) (by decide) (by decide) W)
  refine (HI.out _).mono ?_
  rintro e W10 ⟨va, rfl, hva, hb⟩
  have HA10 := Lib.hid (chain1 HA9.out hb)
  have HVA := Lib.hid hva
  obtain ⟨_, _, _, _, rfl⟩ := hva.form
  clear hva
  clear hb HA9
  clear HI
  go_wp2_with fail
  have HI := Lib.hid (fun W => int_q (-1) (by decide) (by decide) W)
  refine (HI.out _).mono ?_
  rintro e W11 ⟨vb, rfl, hvb, hb⟩
  have HVA := Lib.hid (HVA.out.below hb (Nat.le_refl _))
  have HA11 := Lib.hid (chain1 HA10.out hb)
  have HVB := Lib.hid hvb
  obtain ⟨_, _, _, _, rfl⟩ := hvb.form
  clear hvb
  clear hb HA10
  clear HI
  go_wp2_with fail
  have HBt := Lib.hid (fun v1 v2 W h1 h2 => between_any v1 v2 (qi (2)) (qi (-1)) 1 W h1 h2 (siz_qi _ (by decide) (by decide)) (siz_qi _ (by decide) (by decide)) (by decide))
  rw [ks.1, ks.2] at HBt
  refine (HBt.out _ _ _ HVA.out HVB.out).mono ?_
  rintro e W12 ⟨vs, rfl, hvs, hb⟩
  have HA12 := Lib.hid (chain1 HA11.out hb)
  have HVS := Lib.hid hvs
  clear hb HA11
  clear HBt HVA HVB
  obtain ⟨s1, sa, sb, sp, s2, sc, sd, sq, rfl, hl, hh⟩ := hvs
  go_wp2_with fail
  obtain ⟨W13, hW, hb, hX⟩ := newbox8 W12 (.bool s1) (u sa) (u sb) (.pointer sp) (.bool s2) (u sc) (u sd) (.pointer sq)
  rw [hW]
  clear hW
  have HS8 := Lib.hid hX
  have HLs := Lib.hid (hl.below hb (Nat.le_refl _))
  have HHs := Lib.hid (hh.below hb (Nat.le_refl _))
  have HA13 := Lib.hid (chain1 HA12.out hb)
  clear hX hl hh HVS
  clear hb HA12
  generalize W12.heap.size = n5 at *
  have HI3 := Lib.hid (fun W => (int_q 3 (by decide) (by decide) W : Calls Tryz.prog 15 #[.int .i64 3] W (QNew W (qi 3))))
  have HI4 := Lib.hid (fun W => (int_q 4 (by decide) (by decide) W : Calls Tryz.prog 15 #[.int .i64 4] W (QNew W (qi 4))))
  have HBt := Lib.hid (fun v1 v2 W h1 h2 => between_any v1 v2 (qi 3) (qi 4) 1 W h1 h2 (siz_qi _ (by decide) (by decide)) (siz_qi _ (by decide) (by decide)) (by decide))
  rw [kr.1, kr.2] at HBt
  have HTm := Lib.hid (fun v1 v2 W h1 h2 hG => sptimes_any v1 v2 (qi (-1)) (qi 2) (qi 3) (qi 4) 1 W h1 h2 (siz_qi _ (by decide) (by decide)) (siz_qi _ (by decide) (by decide)) (siz_qi _ (by decide) (by decide)) (siz_qi _ (by decide) (by decide)) (by decide) hG)
  rw [kt.1, kt.2] at HTm
  have HsS := Lib.hid (show IsS W13 (.agg #[.bool s1, u sa, u sb, .pointer sp, .bool s2, u sc, u sd, .pointer sq]) (qi (-1)) (qi 2) from ⟨_, _, _, _, _, _, _, _, rfl, HLs.out, HHs.out⟩)
  go_upto_region 6 with fail
  go_cut [6] from 42 to 46 (fun s6 wx => KBox W13 (qi (-4)) (qi 8) s6 wx)
  case first =>
    have hb0 := Below.refl W13.heap.size W13
    obtain ⟨c0, c1, c2, c3, c4, c5, c6, c7⟩ := HS8.out.cells
    have lt13 : n5 < W13.heap.size := Box8.lt HS8.out
    have na13 := Nat.ne_of_lt lt13
    have nb13 := na13.symm
    go_region_held3 (fun w' => w'.cell? ⟨n5, 0, none⟩ = some (.bool s1) ∧ w'.cell? ⟨n5, 1, none⟩ = some (u sa) ∧ w'.cell? ⟨n5, 2, none⟩ = some (u sb) ∧ w'.cell? ⟨n5, 3, none⟩ = some (.pointer sp) ∧ w'.cell? ⟨n5, 4, none⟩ = some (.bool s2) ∧ w'.cell? ⟨n5, 5, none⟩ = some (u sc) ∧ w'.cell? ⟨n5, 6, none⟩ = some (u sd) ∧ w'.cell? ⟨n5, 7, none⟩ = some (.pointer sq)) (go_keep) (first | ((with_reducible refine (HI3.out _).mono ?_); rintro e W14 ⟨va, rfl, hva, hb⟩; obtain ⟨_, _, _, _, rfl⟩ := hva.form; ((first | have hz := ZAt.keep hz hb | have hz := ZAt.new hb0 hb | have hz := ZAt.drew hb0 hb | skip); have hb0 : Below W13.heap.size W13 W14 := (by first | exact chain1 hb0 hb | exact chain1 (chain1 hb0 (below1 _ _)) hb | exact chain hb0 hb | exact chain (chain1 hb0 (below1 _ _)) hb); clear c0 c1 c2 c3 c4 c5 c6 c7; have hX := Box8.below HS8.out hb0 (Nat.le_refl _); (obtain ⟨c0, c1, c2, c3, c4, c5, c6, c7⟩ := hX.cells); have lt14 : n5 < W14.heap.size := Box8.lt hX; have na14 := Nat.ne_of_lt lt14; have nb14 := na14.symm; clear hX); clear hb) | ((with_reducible refine (HI4.out _).mono ?_); rintro e W15 ⟨vb, rfl, hvb, hb⟩; obtain ⟨_, _, _, _, rfl⟩ := hvb.form; (first | replace hva := hva.below hb (Nat.le_refl _) | replace hva := (hva.below (below1 _ _) (Nat.le_refl _)).below hb (Nat.le_refl _)); ((first | have hz := ZAt.keep hz hb | have hz := ZAt.new hb0 hb | have hz := ZAt.drew hb0 hb | skip); have hb0 : Below W13.heap.size W13 W15 := (by first | exact chain1 hb0 hb | exact chain1 (chain1 hb0 (below1 _ _)) hb | exact chain hb0 hb | exact chain (chain1 hb0 (below1 _ _)) hb); clear c0 c1 c2 c3 c4 c5 c6 c7; have hX := Box8.below HS8.out hb0 (Nat.le_refl _); (obtain ⟨c0, c1, c2, c3, c4, c5, c6, c7⟩ := hX.cells); have lt15 : n5 < W15.heap.size := Box8.lt hX; have na15 := Nat.ne_of_lt lt15; have nb15 := na15.symm; clear hX); clear hb) | ((with_reducible refine (HBt.out _ _ _ ?_ ?_).mono ?_); (first | exact hva | exact hva.below (below1 _ _) (Nat.le_refl _)); (first | exact hvb | exact hvb.below (below1 _ _) (Nat.le_refl _)); rintro e W16 ⟨vt, rfl, hvt, hb⟩; have hvt' := hvt; obtain ⟨_, _, _, _, _, _, _, _, rfl, -, -⟩ := hvt'; ((first | have hz := ZAt.keep hz hb | have hz := ZAt.new hb0 hb | have hz := ZAt.drew hb0 hb | skip); have hb0 : Below W13.heap.size W13 W16 := (by first | exact chain1 hb0 hb | exact chain1 (chain1 hb0 (below1 _ _)) hb | exact chain hb0 hb | exact chain (chain1 hb0 (below1 _ _)) hb); clear c0 c1 c2 c3 c4 c5 c6 c7; have hX := Box8.below HS8.out hb0 (Nat.le_refl _); (obtain ⟨c0, c1, c2, c3, c4, c5, c6, c7⟩ := hX.cells); have lt16 : n5 < W16.heap.size := Box8.lt hX; have na16 := Nat.ne_of_lt lt16; have nb16 := na16.symm; clear hX); clear hb) | ((with_reducible refine (HTm.out _ _ _ ?_ ?_ ?_).mono ?_); (first | exact HsS.out.below hb0 (Nat.le_refl _) | exact HsS.out.below (chain1 hb0 (below1 _ _)) (Nat.le_refl _)); (first | exact hvt | exact hvt.below (below1 _ _) (Nat.le_refl _)); (first | exact HG.out _ (chain1 HA13.out hb0) | exact HG.out _ (chain1 HA13.out (chain1 hb0 (below1 _ _)))); rintro e W17 ⟨v, rfl, hv, hb⟩; have hv' := hv; obtain ⟨t1, ta, tb, tp, t2, tc, td, tq, rfl, -, -⟩ := hv'; ((first | have hz := ZAt.keep hz hb | have hz := ZAt.new hb0 hb | have hz := ZAt.drew hb0 hb | skip); have hb0 : Below W13.heap.size W13 W17 := (by first | exact chain1 hb0 hb | exact chain1 (chain1 hb0 (below1 _ _)) hb | exact chain hb0 hb | exact chain (chain1 hb0 (below1 _ _)) hb); clear c0 c1 c2 c3 c4 c5 c6 c7; have hX := Box8.below HS8.out hb0 (Nat.le_refl _); (obtain ⟨c0, c1, c2, c3, c4, c5, c6, c7⟩ := hX.cells); have lt17 : n5 < W17.heap.size := Box8.lt hX; have na17 := Nat.ne_of_lt lt17; have nb17 := na17.symm; clear hX); clear hb; (first | (have hz9 := hz.2; (obtain ⟨z0, z1, z2, z3, z4, z5, z6, z7⟩ := Box8.cells hz9; have zf0 := Box8.frozen hz9 0; have zf1 := Box8.frozen hz9 1; have zf2 := Box8.frozen hz9 2; have zf3 := Box8.frozen hz9 3; have zf4 := Box8.frozen hz9 4; have zf5 := Box8.frozen hz9 5; have zf6 := Box8.frozen hz9 6; have zf7 := Box8.frozen hz9 7); have HZz := Lib.hid hz; clear hz hz9) | skip); have HVv := Lib.hid hv; have HBb := Lib.hid hb0; clear hv hb0 hva hvb hvt))
    all_goals (clear c0 c1 c2 c3 c4 c5 c6 c7; rename_i hS; clear hS; go_wp2_with fail; go_meet; first | (have hz := HZz.out; exact KBox.stored hz HVv.out HBb.out) | exact KBox.fresh HVv.out HBb.out)
  case rest =>
    obtain ⟨n6, t1, ta, tb, tp, t2, tc, td, tq, rfl, hX, hl, hh, hb⟩ := hcut
    obtain ⟨W17, hW17⟩ : ∃ W, W = wc := ⟨_, rfl⟩
    subst hW17
    have HT8 := Lib.hid hX
    have HLt := Lib.hid hl
    have HHt := Lib.hid hh
    have HS8 := Lib.hid (Box8.below HS8.out hb (Nat.le_refl _))
    have HLs := Lib.hid (HLs.out.below hb (Nat.le_refl _))
    have HHs := Lib.hid (HHs.out.below hb (Nat.le_refl _))
    have HA17 := Lib.hid (chain1 HA13.out hb)
    clear hX hl hh HI3 HI4 HBt HTm HsS
    clear hb HA13
    go_wp2_with fail
    have HI := Lib.hid (fun W => int_q (1) (by decide) (by decide) W)
    refine (HI.out _).mono ?_
    rintro e W18 ⟨va, rfl, hva, hb⟩
    have HLs := Lib.hid (HLs.out.below hb (Nat.le_refl _))
    have HHs := Lib.hid (HHs.out.below hb (Nat.le_refl _))
    have HLt := Lib.hid (HLt.out.below hb (Nat.le_refl _))
    have HHt := Lib.hid (HHt.out.below hb (Nat.le_refl _))
    have HS8 := Lib.hid (Box8.below HS8.out hb (Nat.le_refl _))
    have HT8 := Lib.hid (Box8.below HT8.out hb (Nat.le_refl _))
    have HA18 := Lib.hid (chain1 HA17.out hb)
    have HVA := Lib.hid hva
    obtain ⟨_, _, _, _, rfl⟩ := hva.form
    clear hva
    clear hb HA17
    clear HI
    go_wp2_with fail
    have HI := Lib.hid (fun W => int_q (-2) (by decide) (by decide) W)
    refine (HI.out _).mono ?_
    rintro e W19 ⟨vb, rfl, hvb, hb⟩
    have HLs := Lib.hid (HLs.out.below hb (Nat.le_refl _))
    have HHs := Lib.hid (HHs.out.below hb (Nat.le_refl _))
    have HLt := Lib.hid (HLt.out.below hb (Nat.le_refl _))
    have HHt := Lib.hid (HHt.out.below hb (Nat.le_refl _))
    have HVA := Lib.hid (HVA.out.below hb (Nat.le_refl _))
    have HS8 := Lib.hid (Box8.below HS8.out hb (Nat.le_refl _))
    have HT8 := Lib.hid (Box8.below HT8.out hb (Nat.le_refl _))
    have HA19 := Lib.hid (chain1 HA18.out hb)
    have HVB := Lib.hid hvb
    obtain ⟨_, _, _, _, rfl⟩ := hvb.form
    clear hvb
    clear hb HA18
    clear HI
    go_wp2_with fail
    have HI := Lib.hid (fun W => int_q (0) (by decide) (by decide) W)
    refine (HI.out _).mono ?_
    rintro e W20 ⟨vc, rfl, hvc, hb⟩
    have HLs := Lib.hid (HLs.out.below hb (Nat.le_refl _))
    have HHs := Lib.hid (HHs.out.below hb (Nat.le_refl _))
    have HLt := Lib.hid (HLt.out.below hb (Nat.le_refl _))
    have HHt := Lib.hid (HHt.out.below hb (Nat.le_refl _))
    have HVA := Lib.hid (HVA.out.below hb (Nat.le_refl _))
    have HVB := Lib.hid (HVB.out.below hb (Nat.le_refl _))
    have HS8 := Lib.hid (Box8.below HS8.out hb (Nat.le_refl _))
    have HT8 := Lib.hid (Box8.below HT8.out hb (Nat.le_refl _))
    have HA20 := Lib.hid (chain1 HA19.out hb)
    have HVC := Lib.hid hvc
    obtain ⟨_, _, _, _, rfl⟩ := hvc.form
    clear hvc
    clear hb HA19
    clear HI
    go_wp2_with fail
    have HI := Lib.hid (fun W => int_q (0) (by decide) (by decide) W)
    refine (HI.out _).mono ?_
    rintro e W21 ⟨vd, rfl, hvd, hb⟩
    have HLs := Lib.hid (HLs.out.below hb (Nat.le_refl _))
    have HHs := Lib.hid (HHs.out.below hb (Nat.le_refl _))
    have HLt := Lib.hid (HLt.out.below hb (Nat.le_refl _))
    have HHt := Lib.hid (HHt.out.below hb (Nat.le_refl _))
    have HVA := Lib.hid (HVA.out.below hb (Nat.le_refl _))
    have HVB := Lib.hid (HVB.out.below hb (Nat.le_refl _))
    have HVC := Lib.hid (HVC.out.below hb (Nat.le_refl _))
    have HS8 := Lib.hid (Box8.below HS8.out hb (Nat.le_refl _))
    have HT8 := Lib.hid (Box8.below HT8.out hb (Nat.le_refl _))
    have HA21 := Lib.hid (chain1 HA20.out hb)
    have HVD := Lib.hid hvd
    obtain ⟨_, _, _, _, rfl⟩ := hvd.form
    clear hvd
    clear hb HA20
    clear HI
    go_wp2_with fail
    have HI := Lib.hid (fun W => int_q (3) (by decide) (by decide) W)
    refine (HI.out _).mono ?_
    rintro e W22 ⟨ve, rfl, hve, hb⟩
    have HLs := Lib.hid (HLs.out.below hb (Nat.le_refl _))
    have HHs := Lib.hid (HHs.out.below hb (Nat.le_refl _))
    have HLt := Lib.hid (HLt.out.below hb (Nat.le_refl _))
    have HHt := Lib.hid (HHt.out.below hb (Nat.le_refl _))
    have HVA := Lib.hid (HVA.out.below hb (Nat.le_refl _))
    have HVB := Lib.hid (HVB.out.below hb (Nat.le_refl _))
    have HVC := Lib.hid (HVC.out.below hb (Nat.le_refl _))
    have HVD := Lib.hid (HVD.out.below hb (Nat.le_refl _))
    have HS8 := Lib.hid (Box8.below HS8.out hb (Nat.le_refl _))
    have HT8 := Lib.hid (Box8.below HT8.out hb (Nat.le_refl _))
    have HA22 := Lib.hid (chain1 HA21.out hb)
    have HVE := Lib.hid hve
    obtain ⟨_, _, _, _, rfl⟩ := hve.form
    clear hve
    clear hb HA21
    clear HI
    go_wp2_with fail
    have HBt := Lib.hid (fun v1 v2 W h1 h2 => between_any v1 v2 (qi (0)) (qi (3)) 1 W h1 h2 (siz_qi _ (by decide) (by decide)) (siz_qi _ (by decide) (by decide)) (by decide))
    rw [kv.1, kv.2] at HBt
    refine (HBt.out _ _ _ HVD.out HVE.out).mono ?_
    rintro e W23 ⟨vr, rfl, hvr, hb⟩
    have HLs := Lib.hid (HLs.out.below hb (Nat.le_refl _))
    have HHs := Lib.hid (HHs.out.below hb (Nat.le_refl _))
    have HLt := Lib.hid (HLt.out.below hb (Nat.le_refl _))
    have HHt := Lib.hid (HHt.out.below hb (Nat.le_refl _))
    have HVA := Lib.hid (HVA.out.below hb (Nat.le_refl _))
    have HVB := Lib.hid (HVB.out.below hb (Nat.le_refl _))
    have HVC := Lib.hid (HVC.out.below hb (Nat.le_refl _))
    have HS8 := Lib.hid (Box8.below HS8.out hb (Nat.le_refl _))
    have HT8 := Lib.hid (Box8.below HT8.out hb (Nat.le_refl _))
    have HA23 := Lib.hid (chain1 HA22.out hb)
    have HVR := Lib.hid hvr
    clear hb HA22
    clear HBt HVD HVE
    have HQu := Lib.hid (fun v1 v2 v3 v4 W h1 h2 h3 h4 hG => quadratic_any v1 v2 v3 v4 (qi 1) (qi (-2)) (qi 0) (qi 0) (qi 3) 1 W h1 h2 h3 h4 (siz_qi _ (by decide) (by decide)) (siz_qi _ (by decide) (by decide)) (siz_qi _ (by decide) (by decide)) (siz_qi _ (by decide) (by decide)) (siz_qi _ (by decide) (by decide)) (by decide) hG)
    rw [ku.1, ku.2] at HQu
    obtain ⟨r1, ra, rb, rp, r2, rc, rd, rq, rfl, hl, hh⟩ := hvr
    have hvr := HVR.out
    go_wp2_with fail
    refine (HQu.out _ _ _ _ _ HVA.out HVB.out HVC.out HVR.out (HG.out _ HA23.out)).mono ?_
    rintro e W24 ⟨vq, rfl, hvq, hb⟩
    have HLs := Lib.hid (HLs.out.below hb (Nat.le_refl _))
    have HHs := Lib.hid (HHs.out.below hb (Nat.le_refl _))
    have HLt := Lib.hid (HLt.out.below hb (Nat.le_refl _))
    have HHt := Lib.hid (HHt.out.below hb (Nat.le_refl _))
    have HS8 := Lib.hid (Box8.below HS8.out hb (Nat.le_refl _))
    have HT8 := Lib.hid (Box8.below HT8.out hb (Nat.le_refl _))
    have HA24 := Lib.hid (chain1 HA23.out hb)
    have HVQ := Lib.hid hvq
    clear hb HA23
    clear HQu HVA HVB HVC HVR hl hh hvr
    obtain ⟨q1, qa, qb, qp, q2, qc, qd, qq, rfl, hl, hh⟩ := hvq
    have ltHS8 := Box8.lt HS8.out
    have ltHT8 := Box8.lt HT8.out
    go_upto_region 8 with fail
    obtain ⟨W25, hW, hb, hX⟩ := newbox8 W24 (.bool q1) (u qa) (u qb) (.pointer qp) (.bool q2) (u qc) (u qd) (.pointer qq)
    rw [hW]
    clear hW
    clear ltHS8
    clear ltHT8
    have HQ8 := Lib.hid hX
    have HLq := Lib.hid (hl.below hb (Nat.le_refl _))
    have HHq := Lib.hid (hh.below hb (Nat.le_refl _))
    have HLs := Lib.hid (HLs.out.below hb (Nat.le_refl _))
    have HHs := Lib.hid (HHs.out.below hb (Nat.le_refl _))
    have HLt := Lib.hid (HLt.out.below hb (Nat.le_refl _))
    have HHt := Lib.hid (HHt.out.below hb (Nat.le_refl _))
    have HS8 := Lib.hid (Box8.below HS8.out hb (Nat.le_refl _))
    have HT8 := Lib.hid (Box8.below HT8.out hb (Nat.le_refl _))
    have HA25 := Lib.hid (chain1 HA24.out hb)
    clear hX hl hh HVQ
    clear hb HA24
    generalize W24.heap.size = n7 at *
    (obtain ⟨c0, c1, c2, c3, c4, c5, c6, c7⟩ := HT8.out.cells)
    go_wp2_with fail
    clear c0 c1 c2 c3 c4 c5 c6 c7
    have HTx := Lib.hid (fun v W (hv : IsQ W v (qi (-4))) => (kt4 ▸ text_q v _ 1 W hv (siz_qi _ (by decide) (by decide)) (by decide) : Calls Tryz.prog 14 #[v] W (StrNew W _)))
    refine (HTx.out _ _ HLt.out).mono ?_
    rintro e W26 ⟨rfl, hb⟩
    have HLs := Lib.hid (HLs.out.below hb (Nat.le_refl _))
    have HHs := Lib.hid (HHs.out.below hb (Nat.le_refl _))
    have HLt := Lib.hid (HLt.out.below hb (Nat.le_refl _))
    have HHt := Lib.hid (HHt.out.below hb (Nat.le_refl _))
    have HLq := Lib.hid (HLq.out.below hb (Nat.le_refl _))
    have HHq := Lib.hid (HHq.out.below hb (Nat.le_refl _))
    have HS8 := Lib.hid (Box8.below HS8.out hb (Nat.le_refl _))
    have HT8 := Lib.hid (Box8.below HT8.out hb (Nat.le_refl _))
    have HQ8 := Lib.hid (Box8.below HQ8.out hb (Nat.le_refl _))
    have HA26 := Lib.hid (chain1 HA25.out hb)
    clear hb HA25
    clear HTx
    (obtain ⟨c0, c1, c2, c3, c4, c5, c6, c7⟩ := HT8.out.cells)
    go_wp2_with fail
    clear c0 c1 c2 c3 c4 c5 c6 c7
    have HTx := Lib.hid (fun v W (hv : IsQ W v (qi (8))) => (kt8 ▸ text_q v _ 1 W hv (siz_qi _ (by decide) (by decide)) (by decide) : Calls Tryz.prog 14 #[v] W (StrNew W _)))
    refine (HTx.out _ _ HHt.out).mono ?_
    rintro e W27 ⟨rfl, hb⟩
    have HLs := Lib.hid (HLs.out.below hb (Nat.le_refl _))
    have HHs := Lib.hid (HHs.out.below hb (Nat.le_refl _))
    have HLt := Lib.hid (HLt.out.below hb (Nat.le_refl _))
    have HHt := Lib.hid (HHt.out.below hb (Nat.le_refl _))
    have HLq := Lib.hid (HLq.out.below hb (Nat.le_refl _))
    have HHq := Lib.hid (HHq.out.below hb (Nat.le_refl _))
    have HS8 := Lib.hid (Box8.below HS8.out hb (Nat.le_refl _))
    have HT8 := Lib.hid (Box8.below HT8.out hb (Nat.le_refl _))
    have HQ8 := Lib.hid (Box8.below HQ8.out hb (Nat.le_refl _))
    have HA27 := Lib.hid (chain1 HA26.out hb)
    clear hb HA26
    clear HTx
    (obtain ⟨c0, c1, c2, c3, c4, c5, c6, c7⟩ := HS8.out.cells)
    go_wp2_with fail
    clear c0 c1 c2 c3 c4 c5 c6 c7
    have HSq := Lib.hid (fun v W h hG => square_any v (qi (-1)) (qi 2) 1 W h (siz_qi _ (by decide) (by decide)) (siz_qi _ (by decide) (by decide)) (by decide) hG)
    rw [kq] at HSq
    have HsS := Lib.hid (show IsS W27 (.agg #[.bool s1, u sa, u sb, .pointer sp, .bool s2, u sc, u sd, .pointer sq]) (qi (-1)) (qi 2) from ⟨_, _, _, _, _, _, _, _, rfl, HLs.out, HHs.out⟩)
    refine (HSq.out _ _ HsS.out (HG.out _ HA27.out)).mono ?_
    rintro e W28 ⟨vy, rfl, hvy, hb⟩
    have HLq := Lib.hid (HLq.out.below hb (Nat.le_refl _))
    have HHq := Lib.hid (HHq.out.below hb (Nat.le_refl _))
    have HQ8 := Lib.hid (Box8.below HQ8.out hb (Nat.le_refl _))
    have HA28 := Lib.hid (chain1 HA27.out hb)
    have HVY := Lib.hid hvy
    clear hb HA27
    obtain ⟨y1, ya, yb, yp, y2, yc, yd, yq, rfl, hl, hh⟩ := hvy
    have HLy := Lib.hid hl
    clear hl hh HVY HSq HsS
    have hfd := field_low y1 y2 ya yb yc yd yp yq W28
    go_wp2_with fail
    clear hfd
    have HTx := Lib.hid (fun v W (hv : IsQ W v (qi (0))) => (kt0 ▸ text_q v _ 1 W hv (siz_qi _ (by decide) (by decide)) (by decide) : Calls Tryz.prog 14 #[v] W (StrNew W _)))
    refine (HTx.out _ _ HLy.out).mono ?_
    rintro e W29 ⟨rfl, hb⟩
    have HLq := Lib.hid (HLq.out.below hb (Nat.le_refl _))
    have HHq := Lib.hid (HHq.out.below hb (Nat.le_refl _))
    have HQ8 := Lib.hid (Box8.below HQ8.out hb (Nat.le_refl _))
    have HA29 := Lib.hid (chain1 HA28.out hb)
    clear hb HA28
    clear HTx
    (obtain ⟨c0, c1, c2, c3, c4, c5, c6, c7⟩ := HQ8.out.cells)
    go_wp2_with fail
    clear c0 c1 c2 c3 c4 c5 c6 c7
    have HTx := Lib.hid (fun v W (hv : IsQ W v (qi (-1))) => (kt1 ▸ text_q v _ 1 W hv (siz_qi _ (by decide) (by decide)) (by decide) : Calls Tryz.prog 14 #[v] W (StrNew W _)))
    refine (HTx.out _ _ HLq.out).mono ?_
    rintro e W30 ⟨rfl, hb⟩
    have HLq := Lib.hid (HLq.out.below hb (Nat.le_refl _))
    have HHq := Lib.hid (HHq.out.below hb (Nat.le_refl _))
    have HQ8 := Lib.hid (Box8.below HQ8.out hb (Nat.le_refl _))
    have HA30 := Lib.hid (chain1 HA29.out hb)
    clear hb HA29
    clear HTx
    (obtain ⟨c0, c1, c2, c3, c4, c5, c6, c7⟩ := HQ8.out.cells)
    go_wp2_with fail
    clear c0 c1 c2 c3 c4 c5 c6 c7
    have HTx := Lib.hid (fun v W (hv : IsQ W v (qi (3))) => (kt3 ▸ text_q v _ 1 W hv (siz_qi _ (by decide) (by decide)) (by decide) : Calls Tryz.prog 14 #[v] W (StrNew W _)))
    refine (HTx.out _ _ HHq.out).mono ?_
    rintro e W31 ⟨rfl, hb⟩
    have HLq := Lib.hid (HLq.out.below hb (Nat.le_refl _))
    have HHq := Lib.hid (HHq.out.below hb (Nat.le_refl _))
    have HQ8 := Lib.hid (Box8.below HQ8.out hb (Nat.le_refl _))
    have HA31 := Lib.hid (chain1 HA30.out hb)
    clear hb HA30
    clear HTx
    go_wp2_with fail
    exact bodyPost_ret (v := .bool true) (by simp [results, Tryz.results10, go_sem]) rfl ⟨rfl, HA31.out⟩

end Go.Proofs.YtccabfblgjcboaaGreatDoor

/- number: the number of a text. -/
namespace Go.Proofs.YtccabfblgjcboaaGreatDoor
open Go Go.RowKit Go.Proofs Lim

theorem number_any (l : List UInt8) (w : World) (hl : l.length ≤ 100000) (hG : Gr w) : Calls Tryz.prog 72 #[str l] w (QNew w (readQ l).1) := by
  have HR := Lib.hid (fun W (hW : Below w.heap.size w W) => read_any l W hl (hG.below hW hG.size))
  clear hG hl
  go_enter Tryz.func72, Tryz.ntmps72
  go_wp2_with fail
  obtain ⟨W0, hW0, hb0, hz, hs⟩ := boxz w; rw [← hW0]; clear hW0; have HZ := Lib.hid hz; have HW0 := Lib.hid hb0; have hb0 := Below.refl W0.heap.size W0; clear hz
  refine (HR.out _ HW0.out).mono ?_
  rintro e W1 ⟨v, rfl, hv, hbb⟩
  generalize (readQ l).1 = r at *
  generalize (readQ l).2 = ec at *
  obtain ⟨s1, a1, b1, p1, rfl⟩ := hv.form
  have HV := Lib.hid hv
  have HB := Lib.hid hbb
  clear hv hbb hb0
  go_upto_region 2 with fail
  obtain ⟨W2, hW, hb, ⟨f0, f1, f2, f3⟩⟩ := box1 W1 (.bool s1) (u a1) (u b1) (.pointer p1); rw [← hW]; clear hW
  have HB2 := Lib.hid (chain1 HB.out hb)
  have hn : ¬ W1.heap.size = w.heap.size := by
    have h1 := (Array.getElem?_eq_some_iff.1 HZ.out).1
    have h2 := HB.out.size
    omega
  have hn' : ¬ w.heap.size = W1.heap.size := fun h => hn h.symm
  have HFin := Lib.hid (QNew.stored (a0 := .bool s1) (a1 := u a1) (a2 := u b1) (a3 := .pointer p1) (HZ.out.below HB2.out (Nat.le_refl _)) (HV.out.below hb (Nat.le_refl _)) (chain1 HW0.out HB2.out) (Nat.le_refl _))
  (have hz := HZ.out.below HB2.out (Nat.le_refl _); have zf := hz.frozen; obtain ⟨z0, z1, z2, z3⟩ := hz.cells; have zf0 := zf 0; have zf1 := zf 1; have zf2 := zf 2; have zf3 := zf 3; clear zf hz)
  clear hb
  go_wp2_with fail
  refine bodyPost_ret (v := .agg #[.bool s1, u a1, u b1, .pointer p1]) (by simp [results, Tryz.results72, go_sem, z0, z1, z2, z3]) rfl ?_
  exact HFin.out

end Go.Proofs.YtccabfblgjcboaaGreatDoor

/- equal: two numbers are equal and have one text. -/
namespace Go.Proofs.YtccabfblgjcboaaGreatDoor
open Go Go.RowKit Go.Proofs Lim

theorem cmpQ_self (r : Rat) : cmpQ r r = 0 := by
  unfold cmpQ
  rw [if_neg Rat.lt_irrefl, if_neg Rat.lt_irrefl]
theorem cmpQ_eq {r s : Rat} (h : cmpQ r s = 0) : r = s := by
  unfold cmpQ at h
  split at h
  · exact absurd h (by decide)
  · rename_i h1
    split at h
    · exact absurd h (by decide)
    · rename_i h2
      exact Rat.le_antisymm (Rat.not_lt.1 h2) (Rat.not_lt.1 h1)

set_option maxHeartbeats 2000000 in
theorem equal_any (v1 v2 : Value) (r s : Rat) (k : Nat) (w : World) (h1 : IsQ w v1 r) (h2 : IsQ w v2 s) (z1 : Siz r k) (z2 : Siz s k) (hk : (k : Int) ≤ 1073741824) :
    Calls Tryz.prog 74 #[v1, v2] w (Val w (.bool (decide (r = s)))) := by
  have HC := Lib.hid (fun W (hW : Below w.heap.size w W) => cmp_q v1 v2 r s k W (h1.below hW (Nat.le_refl _)) (h2.below hW (Nat.le_refl _)) z1 z2 hk)
  obtain ⟨s1, x1, y1, p1, rfl⟩ := h1.form
  obtain ⟨s2, x2, y2, p2, rfl⟩ := h2.form
  by_cases hrs : r = s
  · have HT1 := Lib.hid (fun W (hW : Below w.heap.size w W) => text_q _ r k W (h1.below hW (Nat.le_refl _)) z1 hk)
    have HT2 := Lib.hid (fun W (hW : Below w.heap.size w W) => text_q _ s k W (h2.below hW (Nat.le_refl _)) z2 hk)
    subst hrs
    rw [cmpQ_self] at HC
    rw [show decide (r = r) = true from decide_eq_true rfl]
    clear h1 h2 z1 z2 hk
    generalize qtext r = tx at *
    go_enter Tryz.func74, Tryz.ntmps74
    go_wp2_with fail
    obtain ⟨W0, hW0, hb0, ⟨f0, f1, f2, f3⟩, ⟨g0, g1, g2, g3⟩⟩ := box2 w (.bool s1) (u x1) (u y1) (.pointer p1) (.bool s2) (u x2) (u y2) (.pointer p2); rw [← hW0]; clear hW0
    have HW0 := Lib.hid hb0
    clear hb0
    have hb0 := Below.refl W0.heap.size W0
    go_region_held3 (fun w' => (w'.cell? ⟨w.heap.size, 0, none⟩ = some (.bool s1) ∧ w'.cell? ⟨w.heap.size, 1, none⟩ = some (u x1) ∧ w'.cell? ⟨w.heap.size, 2, none⟩ = some (u y1) ∧ w'.cell? ⟨w.heap.size, 3, none⟩ = some (.pointer p1)) ∧ (w'.cell? ⟨w.heap.size + 1, 0, none⟩ = some (.bool s2) ∧ w'.cell? ⟨w.heap.size + 1, 1, none⟩ = some (u x2) ∧ w'.cell? ⟨w.heap.size + 1, 2, none⟩ = some (u y2) ∧ w'.cell? ⟨w.heap.size + 1, 3, none⟩ = some (.pointer p2))) (go_keep) (first | ((with_reducible refine (HC.out _ HW0.out.drew).mono ?_); rintro e W1 ⟨rfl, hb⟩; (obtain ⟨_, _, _, _⟩ := boxq (b := w.heap.size) hb (by assumption) (by assumption) (by assumption) (by assumption); obtain ⟨_, _, _, _⟩ := boxq (b := w.heap.size + 1) hb (by assumption) (by assumption) (by assumption) (by assumption)); have hb1 := chain hb0 hb; clear hb) | ((with_reducible refine (HT1.out _ (chain1 HW0.out hb1)).mono ?_); rintro e W2 ⟨rfl, hb⟩; (obtain ⟨_, _, _, _⟩ := boxq (b := w.heap.size) hb (by assumption) (by assumption) (by assumption) (by assumption); obtain ⟨_, _, _, _⟩ := boxq (b := w.heap.size + 1) hb (by assumption) (by assumption) (by assumption) (by assumption)); have hb1 := chain1 hb1 hb; clear hb) | ((with_reducible refine (HT2.out _ (chain1 HW0.out hb1)).mono ?_); rintro e W3 ⟨rfl, hb⟩; (obtain ⟨_, _, _, _⟩ := boxq (b := w.heap.size) hb (by assumption) (by assumption) (by assumption) (by assumption); obtain ⟨_, _, _, _⟩ := boxq (b := w.heap.size + 1) hb (by assumption) (by assumption) (by assumption) (by assumption)); have hb1 := chain1 hb1 hb; clear hb))
    go_wp2_with fail
    exact bodyPost_ret (v := .bool true) (by simp [results, Tryz.results74, go_sem]) rfl ⟨rfl, chain1 HW0.out hb1⟩
  · have hc : cmpQ r s = -1 ∨ cmpQ r s = 1 := by
      have h0 : ¬ cmpQ r s = 0 := fun h => hrs (cmpQ_eq h)
      unfold cmpQ at h0 ⊢
      split
      · exact Or.inl rfl
      · rename_i h1
        rw [if_neg h1] at h0
        split
        · exact Or.inr rfl
        · rename_i h2
          rw [if_neg h2] at h0
          exact absurd rfl h0
    rw [show decide (r = s) = false from decide_eq_false hrs]
    clear h1 h2 z1 z2 hk hrs
    rcases hc with hc | hc
    · rw [hc] at HC
      clear hc
      go_enter Tryz.func74, Tryz.ntmps74
      go_wp2_with fail
      obtain ⟨W0, hW0, hb0, ⟨f0, f1, f2, f3⟩, ⟨g0, g1, g2, g3⟩⟩ := box2 w (.bool s1) (u x1) (u y1) (.pointer p1) (.bool s2) (u x2) (u y2) (.pointer p2); rw [← hW0]; clear hW0
      have HW0 := Lib.hid hb0
      clear hb0
      have hb0 := Below.refl W0.heap.size W0
      go_region_with (refine (HC.out _ HW0.out.drew).mono ?_; rintro e W1 ⟨rfl, hb⟩; (obtain ⟨_, _, _, _⟩ := boxq (b := w.heap.size) hb (by assumption) (by assumption) (by assumption) (by assumption); obtain ⟨_, _, _, _⟩ := boxq (b := w.heap.size + 1) hb (by assumption) (by assumption) (by assumption) (by assumption)); have hb1 := chain hb0 hb; clear hb)
      all_goals go_wp2_with fail
      all_goals exact bodyPost_ret (v := .bool false) (by simp [results, Tryz.results74, go_sem]) rfl ⟨rfl, chain1 HW0.out hb1⟩
    · rw [hc] at HC
      clear hc
      go_enter Tryz.func74, Tryz.ntmps74
      go_wp2_with fail
      obtain ⟨W0, hW0, hb0, ⟨f0, f1, f2, f3⟩, ⟨g0, g1, g2, g3⟩⟩ := box2 w (.bool s1) (u x1) (u y1) (.pointer p1) (.bool s2) (u x2) (u y2) (.pointer p2); rw [← hW0]; clear hW0
      have HW0 := Lib.hid hb0
      clear hb0
      have hb0 := Below.refl W0.heap.size W0
      go_region_with (refine (HC.out _ HW0.out.drew).mono ?_; rintro e W1 ⟨rfl, hb⟩; (obtain ⟨_, _, _, _⟩ := boxq (b := w.heap.size) hb (by assumption) (by assumption) (by assumption) (by assumption); obtain ⟨_, _, _, _⟩ := boxq (b := w.heap.size + 1) hb (by assumption) (by assumption) (by assumption) (by assumption)); have hb1 := chain hb0 hb; clear hb)
      all_goals go_wp2_with fail
      all_goals exact bodyPost_ret (v := .bool false) (by simp [results, Tryz.results74, go_sem]) rfl ⟨rfl, chain1 HW0.out hb1⟩

end Go.Proofs.YtccabfblgjcboaaGreatDoor

/- long: one of some texts is longer than 120 bytes. -/
namespace Go.Proofs.YtccabfblgjcboaaGreatDoor
open Go Go.RowKit Go.Proofs Lim

theorem any_take_succ {ls : List (List UInt8)} {k : Nat} (p : List UInt8 → Bool) (h : (ls.take k).any p = false) (hk : p (ls[k]?.getD []) = false) : (ls.take (k + 1)).any p = false := by
  rw [List.take_add_one, List.any_append, h, Bool.false_or]
  cases hx : ls[k]? with
  | none => rfl
  | some x => rw [hx] at hk; simpa using hk

theorem any_at {ls : List (List UInt8)} {k : Nat} (p : List UInt8 → Bool) (hk : k < ls.length) (h : p (ls[k]?.getD []) = true) : ls.any p = true := by
  rw [List.getElem?_eq_getElem hk] at h
  exact List.any_eq_true.2 ⟨ls[k], List.getElem_mem hk, h⟩

theorem long_any (b : Nat) (ls : List (List UInt8)) (w : World) (hc : ∀ i, i < ls.length → w.cell? ⟨b, i, none⟩ = some (str (ls[i]?.getD []))) (hn : (ls.length : Int) ≤ 1000) :
    Calls Tryz.prog 23 #[.slice (some ⟨b, 0, none⟩) ls.length ls.length] w (fun e w' => e = .returned (.bool (ls.any (fun x => decide (120 < x.length)))) ∧ w' = w) := by
  have HC := Lib.hid hc
  clear hc
  generalize hR : ls.any (fun x => decide (120 < x.length)) = R
  have HR := Lib.hid hR
  clear hR
  go_enter Tryz.func23, Tryz.ntmps23
  go_wp2_with fail
  go_loop [3] (fun i => ∃ k, k ≤ ls.length ∧ i = .int .i64 (k : Int) ∧ Hid ((ls.take k).any (fun x => decide (120 < x.length)) = false)) (fun i => ls.length - (intOf i).toNat)
  case atStart => exact ⟨0, Nat.zero_le _, rfl, Lib.hid rfl⟩
  case round =>
    obtain ⟨k, hk, rfl, hany⟩ := hrel
    by_cases hkn : k < ls.length
    · have hcell := HC.out k hkn
      have hk0 : (0 : Int) ≤ (k : Int) := by omega
      have hk1 : (k : Int) < (ls.length : Int) := by omega
      have hsz : (⟨(ls[k]?.getD []).toArray⟩ : ByteArray).size = (ls[k]?.getD []).length := by simp [ByteArray.size]
      have hst := any_take_succ (ls := ls) (k := k) (fun x => decide (120 < x.length)) hany.out
      have HSt := Lib.hid hst
      have hat := any_at (ls := ls) (k := k) (fun x => decide (120 < x.length)) hkn
      have HAt := Lib.hid hat
      clear hst hat
      generalize ls[k]?.getD [] = x at *
      by_cases hx : 120 < x.length
      · have hxi : (120 : Int) < (x.length : Int) := by omega
        have hr : R = true := by rw [← HR.out]; exact HAt.out (by simpa using hx)
        clear HAt HSt HR
        subst hr
        go_wp2_with fail
        go_ret
        exact ⟨rfl, rfl⟩
      · have hxi : ¬ (120 : Int) < (x.length : Int) := by omega
        have hw : IntKind.i64.wrap ((k : Int) + 1) = (k : Int) + 1 := by rw [IntKind.wrap_i64]; omega
        have HN := Lib.hid (HSt.out (by simpa using hx))
        clear HSt HAt
        go_wp2_with fail
        go_round
        case rel => exact ⟨k + 1, by omega, by simp, HN⟩
        case measure => simp [intOf]; omega
    · obtain rfl : k = ls.length := by omega
      have hr : R = false := by
        have := hany.out
        rw [List.take_length] at this
        rw [← HR.out, this]
      clear hany HR
      subst hr
      go_wp2_with fail
      go_ret
      exact ⟨rfl, rfl⟩

end Go.Proofs.YtccabfblgjcboaaGreatDoor

/- The calls on numbers, at one size, for walks of laws. -/
namespace Go.Proofs.YtccabfblgjcboaaGreatDoor
open Go Go.RowKit Go.Proofs Lim

theorem Below.drewn (W : World) : Below W.heap.size W W.drew := (Below.refl _ W).drew
theorem IsQ.drewn {W : World} {v : Value} {r : Rat} (h : IsQ W v r) : IsQ W.drew v r := h.below (Below.drewn W) (Nat.le_refl _)
theorem IsS.drewn {W : World} {v : Value} {l g : Rat} (h : IsS W v l g) : IsS W.drew v l g := h.below (Below.drewn W) (Nat.le_refl _)

/-- A size that is enough for what a law reckons. -/
def Sz (r : Rat) : Prop := Siz r 1000
theorem Siz.sz {r : Rat} {k : Nat} (h : Siz r k) (hk : k ≤ 1000) : Sz r := h.le hk

theorem o_plus (w : World) (hG : Gr w) (v1 v2 : Value) (r s : Rat) (W : World) (hW : Below w.heap.size w W) (h1 : IsQ W v1 r) (h2 : IsQ W v2 s) (z1 : Sz r) (z2 : Sz s) : Calls Tryz.prog 25 #[v1, v2] W (QNew W (r + s)) :=
  plus_q v1 v2 r s 1000 W h1 h2 z1 z2 (by decide) (hG.below hW hG.size)
theorem o_minus (w : World) (hG : Gr w) (v1 v2 : Value) (r s : Rat) (W : World) (hW : Below w.heap.size w W) (h1 : IsQ W v1 r) (h2 : IsQ W v2 s) (z1 : Sz r) (z2 : Sz s) : Calls Tryz.prog 27 #[v1, v2] W (QNew W (r - s)) :=
  minus_q v1 v2 r s 1000 W h1 h2 z1 z2 (by decide) (hG.below hW hG.size)
theorem o_times (w : World) (hG : Gr w) (v1 v2 : Value) (r s : Rat) (W : World) (hW : Below w.heap.size w W) (h1 : IsQ W v1 r) (h2 : IsQ W v2 s) (z1 : Sz r) (z2 : Sz s) : Calls Tryz.prog 29 #[v1, v2] W (QNew W (r * s)) :=
  times_q v1 v2 r s 1000 W h1 h2 z1 z2 (by decide) (hG.below hW hG.size)
theorem o_over (w : World) (hG : Gr w) (v1 v2 : Value) (r s : Rat) (W : World) (h0 : s.num ≠ 0) (hW : Below w.heap.size w W) (h1 : IsQ W v1 r) (h2 : IsQ W v2 s) (z1 : Sz r) (z2 : Sz s) : Calls Tryz.prog 34 #[v1, v2] W (OverQ W (r / s)) :=
  over_q v1 v2 r s 1000 W h1 h2 h0 z1 z2 (by decide) (hG.below hW hG.size)
theorem o_floor (w : World) (hG : Gr w) (v : Value) (r : Rat) (W : World) (hW : Below w.heap.size w W) (h1 : IsQ W v r) (z1 : Sz r) : Calls Tryz.prog 41 #[v] W (QNew W ((r.floor : Int) : Rat)) :=
  floor_q v r 1000 W h1 z1 (by decide) (by decide) (hG.below hW hG.size)
theorem o_ceil (w : World) (hG : Gr w) (v : Value) (r : Rat) (W : World) (hW : Below w.heap.size w W) (h1 : IsQ W v r) (z1 : Sz r) : Calls Tryz.prog 43 #[v] W (QNew W ((r.ceil : Int) : Rat)) :=
  ceil_q v r 1000 W h1 z1 (by decide) (by decide) (hG.below hW hG.size)
theorem o_known (w : World) (hG : Gr w) (W : World) (hW : Below w.heap.size w W) : Calls Tryz.prog 10 #[] W (Val W (.bool true)) := known_any W (hG.below hW hG.size)
theorem o_number (w : World) (hG : Gr w) (l : List UInt8) (W : World) (hl : l.length ≤ 100000) (hW : Below w.heap.size w W) : Calls Tryz.prog 72 #[str l] W (QNew W (readQ l).1) := number_any l W hl (hG.below hW hG.size)

theorem o_neg (v : Value) (r : Rat) (W : World) (h1 : IsQ W v r) : Calls Tryz.prog 37 #[v] W (QNew W (-r)) := neg_q v r W h1
theorem o_one (W : World) : Calls Tryz.prog 15 #[.int .i64 1] W (QNew W 1) := int_q 1 (by decide) (by decide) W
theorem o_eq (v1 v2 : Value) (r : Rat) (W : World) (h1 : IsQ W v1 r) (h2 : IsQ W v2 r) (z1 : Sz r) : Calls Tryz.prog 74 #[v1, v2] W (Val W (.bool true)) := by
  have := equal_any v1 v2 r r 1000 W h1 h2 z1 z1 (by decide)
  rwa [show decide (r = r) = true from decide_eq_true rfl] at this
theorem o_eqs (v1 v2 : Value) (r s : Rat) (W : World) (h1 : IsQ W v1 r) (h2 : IsQ W v2 s) (z1 : Sz r) (z2 : Sz s) : Calls Tryz.prog 74 #[v1, v2] W (Val W (.bool (decide (r = s)))) :=
  equal_any v1 v2 r s 1000 W h1 h2 z1 z2 (by decide)
theorem o_sign (v : Value) (r : Rat) (W : World) (h1 : IsQ W v r) : Calls Tryz.prog 19 #[v] W (Val W (.int .i64 (sign r))) := sign_q v r W h1
theorem o_sign0 (v : Value) (W : World) (h1 : IsQ W v 0) : Calls Tryz.prog 19 #[v] W (Val W (.int .i64 0)) := sign_q v 0 W h1
theorem o_cmp (v1 v2 : Value) (r s : Rat) (W : World) (h1 : IsQ W v1 r) (h2 : IsQ W v2 s) (z1 : Sz r) (z2 : Sz s) : Calls Tryz.prog 31 #[v1, v2] W (Val W (.int .i64 (cmpQ r s))) :=
  cmp_q v1 v2 r s 1000 W h1 h2 z1 z2 (by decide)

/-- long, as a variadic call lays its texts. -/
theorem o_long (ls : List (List UInt8)) (cs : Array Value) (n : Nat) (w : World) (hc : cs = (ls.map str).toArray) (hn : n = ls.length) (hl : (ls.length : Int) ≤ 1000) :
    Calls Tryz.prog 23 #[.slice (some ⟨w.heap.size, 0, none⟩) n n] (w.alloc (.cells cs 9)) (fun e w' => e = .returned (.bool (ls.any (fun x => decide (120 < x.length)))) ∧ Below w.heap.size w w') := by
  subst hc hn
  refine (long_any w.heap.size ls _ (fun i hi => ?_) hl).mono fun e w' ⟨h1, h2⟩ => ⟨h1, h2 ▸ below1 w _⟩
  have h : (w.alloc (.cells (ls.map str).toArray 9)).heap[w.heap.size]? = some (.cells (ls.map str).toArray 9) := by
    show (w.heap.push _)[w.heap.size]? = _
    simp
  unfold World.cell?
  rw [h]
  simp [List.getElem?_map, hi]

theorem long_lens {ls : List (List UInt8)} (h : (ls.any (fun x => decide (120 < x.length))) = false) : ∀ x ∈ ls, x.length ≤ 120 := by
  intro x hx
  have := List.any_eq_false.1 h x hx
  simpa using this

theorem siz_one : Siz (1 : Rat) 1 := siz_int 1 (by decide) (by decide)

/-- One more box of a number. -/
theorem nbox (W : World) (n : Nat) (hn : W.heap.size = n) (a0 a1 a2 a3 : Value) : ∃ W', W.alloc (.cells #[a0, a1, a2, a3] 26) = W' ∧ Below W.heap.size W W' ∧ Box W' n a0 a1 a2 a3 ∧ W'.heap.size = n + 1 := by
  subst hn
  exact ⟨_, rfl, below1 W _, heap_alloc_new W _, by show (W.heap.push _).size = _; simp⟩

theorem sz_read {l : List UInt8} (h : l.length ≤ 120) : Siz (readQ l).1 7 := Siz.read l h (by decide) (by decide)

end Go.Proofs.YtccabfblgjcboaaGreatDoor

/- The mathematics of the order: comparisons, signs, integers below and above. -/
namespace Go.Proofs.YtccabfblgjcboaaGreatDoor
open Go Go.RowKit Go.Proofs Lim

theorem sign_eq (r : Rat) : sign r = if r < 0 then -1 else if 0 < r then 1 else 0 := by
  unfold sign
  have h : r.num = 0 ↔ r = 0 := Rat.num_eq_zero
  have h2 : 0 ≤ r.num ↔ 0 ≤ r := Rat.num_nonneg
  have h3 : r.num < 0 ↔ r < 0 := by rw [← Int.not_le, h2, Rat.not_le]
  by_cases e : r = 0
  · subst e; decide +kernel
  · rw [if_neg (fun k => e (h.1 k))]
    by_cases k : r < 0
    · rw [if_pos (h3.2 k), if_pos k]
    · rw [if_neg (fun j => k (h3.1 j)), if_neg k, if_pos (by grind)]
theorem cmp_swap (x y : Rat) : cmpQ y x = -cmpQ x y := by unfold cmpQ; grind
theorem cmp_range (x y : Rat) : -1 ≤ cmpQ x y ∧ cmpQ x y ≤ 1 := by unfold cmpQ; grind
theorem sign_range (x : Rat) : -1 ≤ sign x ∧ sign x ≤ 1 := by rw [sign_eq]; grind
theorem sign_sub (x y : Rat) : sign (x - y) = cmpQ x y := by rw [sign_eq]; unfold cmpQ; grind
theorem cmp_add (x y z : Rat) : cmpQ (x + z) (y + z) = cmpQ x y := by unfold cmpQ; grind
theorem cmp_mul (x y z : Rat) : cmpQ (x * z) (y * z) = cmpQ x y * sign z := by
  rw [sign_eq]
  unfold cmpQ
  have key : ∀ {u v : Rat}, u < v → 0 < z → u * z < v * z := fun h k => Rat.mul_lt_mul_of_pos_right h k
  have keyn : ∀ {u v : Rat}, u < v → z < 0 → v * z < u * z := fun {u v} h k => by
    have := Rat.mul_lt_mul_of_pos_right h (show 0 < -z by grind)
    grind
  by_cases hz : z < 0
  · rw [if_pos hz]
    by_cases h1 : x < y
    · have := keyn h1 hz; grind
    · by_cases h2 : y < x
      · have := keyn h2 hz; grind
      · have : x = y := by grind
        subst this; grind
  · rw [if_neg hz]
    by_cases hz2 : 0 < z
    · rw [if_pos hz2]
      by_cases h1 : x < y
      · have := key h1 hz2; grind
      · by_cases h2 : y < x
        · have := key h2 hz2; grind
        · have : x = y := by grind
          subst this; grind
    · have : z = 0 := by grind
      subst this; grind
theorem cmp_le {x y : Rat} : cmpQ x y ≤ 0 ↔ x ≤ y := by unfold cmpQ; grind
theorem cmp_lt {x y : Rat} : cmpQ x y < 0 ↔ x < y := by unfold cmpQ; grind
theorem cmp_ge {x y : Rat} : 0 ≤ cmpQ x y ↔ y ≤ x := by unfold cmpQ; grind
theorem cmp_gt {x y : Rat} : 0 < cmpQ x y ↔ y < x := by unfold cmpQ; grind
theorem cmp_trans {x y z : Rat} (h1 : cmpQ x y ≤ 0) (h2 : cmpQ y z ≤ 0) : cmpQ x z ≤ 0 := by rw [cmp_le] at *; grind
theorem cmp_floor (x : Rat) : cmpQ ((x.floor : Int) : Rat) x ≤ 0 := cmp_le.2 (Rat.floor_le _)
theorem cmp_floor1 (x : Rat) : cmpQ x (((x.floor : Int) : Rat) + 1) < 0 := cmp_lt.2 (by
  have h := Rat.lt_floor_add_one x
  simpa using h)
theorem cmp_ceil (x : Rat) : 0 ≤ cmpQ ((x.ceil : Int) : Rat) x := cmp_ge.2 Rat.le_ceil
theorem cmp_ceil1 (x : Rat) : 0 < cmpQ x (((x.ceil : Int) : Rat) - 1) := cmp_gt.2 (by
  have h := Rat.ceil_lt (x := x)
  grind)
theorem num_over_den (x : Rat) : ((x.num : Int) : Rat) / (((x.den : Nat) : Int) : Rat) = x := by
  have := Rat.num_divInt_den x
  rw [Rat.divInt_eq_div] at this
  exact this
theorem whole_den {x : Rat} {i : Int} (h : ((i : Int) : Rat) = x) : x.den = 1 := by rw [← h]; rfl
theorem den_whole {x : Rat} (h : x.den = 1) : ((x.num : Int) : Rat) = x := by
  have := num_over_den x
  rw [h] at this
  have h1 : (((1 : Nat) : Int) : Rat) = 1 := rfl
  rw [h1] at this
  grind
theorem floor_whole (x : Rat) : decide (((x.floor : Int) : Rat) = x) = decide (x.den = 1) := by
  rw [decide_eq_decide]
  refine ⟨fun h => whole_den h, fun h => ?_⟩
  have e := den_whole h
  have : x.floor = x.num := by rw [← e]; simp [Rat.floor_intCast]
  rw [this, e]
theorem ceil_whole (x : Rat) : decide (((x.ceil : Int) : Rat) = x) = decide (x.den = 1) := by
  rw [decide_eq_decide]
  refine ⟨fun h => whole_den h, fun h => ?_⟩
  have e := den_whole h
  have : x.ceil = x.num := by
    rw [Rat.ceil_eq_neg_floor_neg]
    have e2 : -x = ((-x.num : Int) : Rat) := by rw [← e]; simp
    rw [e2, Rat.floor_intCast]
    simp
  rw [this, e]
theorem den_is_one (x : Rat) : decide ((((x.den : Nat) : Int) : Rat) = 1) = decide (x.den = 1) := by
  rw [decide_eq_decide]
  constructor
  · intro h
    have h2 : (((x.den : Nat) : Int) : Rat) = ((1 : Int) : Rat) := by simpa using h
    have := Rat.intCast_inj.1 h2
    omega
  · intro h
    rw [h]
    simp
theorem den_num (x : Rat) : ((((x.den : Nat) : Int) : Rat)).num ≠ 0 := by
  show ((x.den : Nat) : Int) ≠ 0
  have := x.den_nz
  omega
theorem sign_den (x : Rat) : sign (((x.den : Nat) : Int) : Rat) = 1 := by
  unfold sign
  have h : ((((x.den : Nat) : Int) : Rat)).num = ((x.den : Nat) : Int) := rfl
  have := x.den_pos
  rw [h, if_neg (by omega), if_neg (by omega)]
theorem floor_num (x : Rat) : (((((x.num : Int) : Rat)).floor : Int) : Rat) = ((x.num : Int) : Rat) := by rw [Rat.floor_intCast]

theorem o_cmp_is (r s : Rat) (c : Int) (h : cmpQ r s = c) (v1 v2 : Value) (W : World) (h1 : IsQ W v1 r) (h2 : IsQ W v2 s) (z1 : Sz r) (z2 : Sz s) : Calls Tryz.prog 31 #[v1, v2] W (Val W (.int .i64 c)) :=
  h ▸ o_cmp v1 v2 r s W h1 h2 z1 z2
theorem o_sign_is (r : Rat) (c : Int) (h : sign r = c) (v : Value) (W : World) (h1 : IsQ W v r) : Calls Tryz.prog 19 #[v] W (Val W (.int .i64 c)) :=
  h ▸ o_sign v r W h1
theorem o_eq_is (r s : Rat) (b : Bool) (h : decide (r = s) = b) (v1 v2 : Value) (W : World) (h1 : IsQ W v1 r) (h2 : IsQ W v2 s) (z1 : Sz r) (z2 : Sz s) : Calls Tryz.prog 74 #[v1, v2] W (Val W (.bool b)) :=
  h ▸ o_eqs v1 v2 r s W h1 h2 z1 z2
theorem Siz.floor {r : Rat} {k : Nat} (h : Siz r k) (hk : 1 ≤ k) : Siz ((r.floor : Int) : Rat) (k + 2) := by
  rw [floor_cut]
  have h1 := h.cut hk
  split
  · have := h1.sub (siz_int 1 (by decide) (by decide))
    rw [Rat.intCast_sub]
    exact this.le (by omega)
  · exact h1.le (by omega)
theorem Siz.ceil {r : Rat} {k : Nat} (h : Siz r k) (hk : 1 ≤ k) : Siz ((r.ceil : Int) : Rat) (k + 2) := by
  rw [ceil_cut]
  have h1 := h.cut hk
  split
  · have := h1.add (siz_int 1 (by decide) (by decide))
    rw [Rat.intCast_add]
    exact this.le (by omega)
  · exact h1.le (by omega)
theorem Siz.num {r : Rat} {k : Nat} (h : Siz r k) (hk : 1 ≤ k) : Siz ((r.num : Int) : Rat) k := by
  refine ⟨h.1, ?_⟩
  show 1 < B ^ k
  have : B ^ 1 ≤ B ^ k := Nat.pow_le_pow_right B_pos hk
  rw [Nat.pow_one] at this
  have h2 : 1 < B := by decide
  omega
theorem Siz.dens {r : Rat} {k : Nat} (h : Siz r k) (hk : 1 ≤ k) : Siz (((r.den : Nat) : Int) : Rat) k := by
  refine ⟨h.2, ?_⟩
  show 1 < B ^ k
  have : B ^ 1 ≤ B ^ k := Nat.pow_le_pow_right B_pos hk
  rw [Nat.pow_one] at this
  have h2 : 1 < B := by decide
  omega


theorem al {k : Nat} {w W : World} (h : Below k w W) {o : Obj} (hk : k ≤ W.heap.size) : Below k w (W.alloc o) := h.alloc hk o
theorem al1 {w W : World} (h : Below w.heap.size w W) {o : Obj} : Below w.heap.size w (W.alloc o) := h.alloc h.size o
theorem al2 {w W : World} (h : Below w.heap.size w W) {o o' : Obj} : Below w.heap.size w ((W.alloc o).alloc o') := al1 (al1 h)
/-- The blocks that stood before a call. -/
theorem blk1 {W W' : World} {o : Obj} (h : Below (W.alloc o).heap.size (W.alloc o) W') : W'.heap[W.heap.size]? = some o := by
  rw [h.block _ (by show _ < (W.heap.push _).size; simp)]
  show (W.heap.push _)[W.heap.size]? = _
  simp
theorem blk2 {W W' : World} {o o' : Obj} (h : Below ((W.alloc o).alloc o').heap.size ((W.alloc o).alloc o') W') : W'.heap[W.heap.size]? = some o ∧ W'.heap[W.heap.size + 1]? = some o' := by
  have h1 : W.heap.size < ((W.heap.push o).push o').size := by simp; omega
  have h2 : W.heap.size + 1 < ((W.heap.push o).push o').size := by simp
  constructor
  · rw [h.block _ h1]
    show ((W.heap.push o).push o')[W.heap.size]? = _
    simp [Array.getElem?_push]
  · rw [h.block _ h2]
    show ((W.heap.push o).push o')[W.heap.size + 1]? = _
    rw [Array.getElem?_push, if_pos (by simp)]

theorem blk1d {W W' : World} {o : Obj} (h : Below (W.alloc o).drew.heap.size (W.alloc o).drew W') : W'.heap[W.heap.size]? = some o := by
  rw [h.block _ (by show _ < (W.heap.push _).size; simp)]
  show (W.heap.push _)[W.heap.size]? = _
  simp
theorem blk2d {W W' : World} {o o' : Obj} (h : Below ((W.alloc o).alloc o').drew.heap.size ((W.alloc o).alloc o').drew W') : W'.heap[W.heap.size]? = some o ∧ W'.heap[W.heap.size + 1]? = some o' := by
  have h1 : W.heap.size < ((W.heap.push o).push o').size := by simp; omega
  have h2 : W.heap.size + 1 < ((W.heap.push o).push o').size := by simp
  constructor
  · rw [h.block _ h1]
    show ((W.heap.push o).push o')[W.heap.size]? = _
    simp [Array.getElem?_push]
  · rw [h.block _ h2]
    show ((W.heap.push o).push o')[W.heap.size + 1]? = _
    rw [Array.getElem?_push, if_pos (by simp)]

def FalseB (w0 : World) (s : Value) (wx : World) : Prop := s = .bool false ∧ Below w0.heap.size w0 wx
/-- The four cells of a number's box, to be read. -/
def QC (W : World) (b : Nat) (c0 c1 c2 c3 : Value) : Prop := W.cell? ⟨b, 0, none⟩ = some c0 ∧ W.cell? ⟨b, 1, none⟩ = some c1 ∧ W.cell? ⟨b, 2, none⟩ = some c2 ∧ W.cell? ⟨b, 3, none⟩ = some c3
theorem QC.cells {W : World} {b : Nat} {c0 c1 c2 c3 : Value} (h : QC W b c0 c1 c2 c3) :
    W.cell? ⟨b, 0, none⟩ = some c0 ∧ W.cell? ⟨b, 1, none⟩ = some c1 ∧ W.cell? ⟨b, 2, none⟩ = some c2 ∧ W.cell? ⟨b, 3, none⟩ = some c3 := h
theorem QC.below {W W' : World} {b k : Nat} {c0 c1 c2 c3 : Value} (h : QC W b c0 c1 c2 c3) (hb : Below k W W') (hk : W.heap.size ≤ k) : QC W' b c0 c1 c2 c3 := by
  have hlt := Nat.lt_of_lt_of_le (World.block_lt_of_cell? W _ h.1) hk
  exact ⟨(hb.cell (p := ⟨b, 0, none⟩) hlt).trans h.1, (hb.cell (p := ⟨b, 1, none⟩) hlt).trans h.2.1, (hb.cell (p := ⟨b, 2, none⟩) hlt).trans h.2.2.1, (hb.cell (p := ⟨b, 3, none⟩) hlt).trans h.2.2.2⟩

/-- Two boxes of numbers. -/
def TwoB (w0 : World) (r1 r2 : Rat) (sA sB : Value) (wx : World) : Prop := ∃ m1 m2 s a b p s' a' b' p', sA = .pointer (some ⟨m1, 0, none⟩) ∧ sB = .pointer (some ⟨m2, 0, none⟩) ∧
  QC wx m1 (.bool s) (u a) (u b) (.pointer p) ∧ QC wx m2 (.bool s') (u a') (u b') (.pointer p') ∧ IsQ wx (.agg #[.bool s, u a, u b, .pointer p]) r1 ∧ IsQ wx (.agg #[.bool s', u a', u b', .pointer p']) r2 ∧ Below w0.heap.size w0 wx

/-- What four stores into a box of a number leave. -/
abbrev set4 (W : World) (R : Nat) (d0 d1 d2 d3 : Value) : World := (((W.setCell ⟨R, 0, none⟩ d0).setCell ⟨R, 1, none⟩ d1).setCell ⟨R, 2, none⟩ d2).setCell ⟨R, 3, none⟩ d3
theorem isq_alloc {W : World} {v : Value} {r : Rat} {o : Obj} (h : IsQ W v r) : IsQ (W.alloc o) v r := h.below (below1 W o) (Nat.le_refl _)
theorem isq_set4 {W : World} {R : Nat} {v : Value} {r : Rat} {d0 d1 d2 d3 : Value} (hR : NBox W R) (h : IsQ W v r) : IsQ (set4 W R d0 d1 d2 d3) v r := h.other hR (only4 W R 0 d0 d1 d2 d3)
theorem nb_lt {W : World} {R : Nat} (h : NBox W R) : R < W.heap.size := by
  obtain ⟨cs, t, fr, hb, _, _⟩ := h
  exact (Array.getElem?_eq_some_iff.1 hb).1
theorem nb_alloc {W : World} {R : Nat} {o : Obj} (h : NBox W R) : NBox (W.alloc o) R := h.of_block ((below1 W o).block R (nb_lt h))
theorem nb_new {W : World} {s : Bool} {d1 d2 d3 : Value} : NBox (W.alloc (.cells #[.bool s, d1, d2, d3] 26)) W.heap.size := Box.nbox (c1 := d1) (c2 := d2) (c3 := d3) (heap_alloc_new W _)
theorem nb_new1 {W : World} {o : Obj} {s : Bool} {d1 d2 d3 : Value} : NBox ((W.alloc o).alloc (.cells #[.bool s, d1, d2, d3] 26)) (W.heap.size + 1) := by
  have h : (W.alloc o).heap.size = W.heap.size + 1 := by show (W.heap.push _).size = _; simp
  rw [← h]
  exact nb_new
theorem nb_set {W : World} {R R' : Nat} {s : Bool} {d1 d2 d3 : Value} (h : NBox W R) : NBox (set4 W R' (.bool s) d1 d2 d3) R := by
  by_cases e : R = R'
  · subst e
    obtain ⟨cs, t, fr, hb, ht, hz⟩ := h
    refine ⟨(((cs.setIfInBounds 0 (.bool s)).setIfInBounds 1 d1).setIfInBounds 2 d2).setIfInBounds 3 d3, t, fr, ?_, ht, ?_⟩
    · simp only [set4, World.setCell, Array.getElem?_modify, hb]
      rfl
    · intro x hx
      by_cases h0 : 0 < cs.size
      · simp [h0] at hx
        exact ⟨s, hx.symm⟩
      · have : cs.size = 0 := by omega
        simp [this] at hx
  · exact h.of_block ((only4 W R' 0 (.bool s) d1 d2 d3).block R e)
theorem bl_alloc {k : Nat} {w W : World} {o : Obj} (h : Below k w W) (hk : k ≤ W.heap.size) : Below k w (W.alloc o) := h.alloc hk o
theorem bl_set4 {k : Nat} {w W : World} {R : Nat} {d0 d1 d2 d3 : Value} (h : Below k w W) (hk : k ≤ R) : Below k w (set4 W R d0 d1 d2 d3) := h.trans ((only4 W R 0 d0 d1 d2 d3).below hk)

theorem qc_alloc {W : World} {b : Nat} {c0 c1 c2 c3 : Value} {o : Obj} (h : QC W b c0 c1 c2 c3) : QC (W.alloc o) b c0 c1 c2 c3 := h.below (below1 W o) (Nat.le_refl _)
theorem qc_box {W : World} {b : Nat} {c0 c1 c2 c3 : Value} (h : Box W b c0 c1 c2 c3) : QC W b c0 c1 c2 c3 := h.cells
theorem qc_new {W : World} {c0 c1 c2 c3 : Value} : QC (W.alloc (.cells #[c0, c1, c2, c3] 26)) W.heap.size c0 c1 c2 c3 := qc_box (heap_alloc_new W _)
theorem qc_new1 {W : World} {o : Obj} {c0 c1 c2 c3 : Value} : QC ((W.alloc o).alloc (.cells #[c0, c1, c2, c3] 26)) (W.heap.size + 1) c0 c1 c2 c3 := by
  have h : (W.alloc o).heap.size = W.heap.size + 1 := by show (W.heap.push _).size = _; simp
  rw [← h]
  exact qc_new
theorem box_set4 {W : World} {R : Nat} {c0 c1 c2 c3 d0 d1 d2 d3 : Value} (h : Box W R c0 c1 c2 c3) : Box (set4 W R d0 d1 d2 d3) R d0 d1 d2 d3 :=
  setCell_block (o := 3) (v := d3) (setCell_block (o := 2) (v := d2) (setCell_block (o := 1) (v := d1) (setCell_block (o := 0) (v := d0) h)))
theorem box_other {W : World} {R R' : Nat} {c0 c1 c2 c3 d0 d1 d2 d3 : Value} (h : Box W R c0 c1 c2 c3) (e : R ≠ R') : Box (set4 W R' d0 d1 d2 d3) R c0 c1 c2 c3 :=
  ((only4 W R' 0 d0 d1 d2 d3).block R e).trans h
theorem box_alloc {W : World} {R : Nat} {c0 c1 c2 c3 : Value} {o : Obj} (h : Box W R c0 c1 c2 c3) : Box (W.alloc o) R c0 c1 c2 c3 := h.below (below1 W o) (Nat.le_refl _)
theorem box_lt {W : World} {R : Nat} {c0 c1 c2 c3 : Value} (h : Box W R c0 c1 c2 c3) : R < W.heap.size := (Array.getElem?_eq_some_iff.1 h).1

/-- What two numbers leave that are stored into two new variables, in whatever order these came up. -/
structure TwoIn (w0 V : World) (r1 r2 : Rat) (s1 s2 : Bool) (a1 b1 a2 b2 : Nat) (p1 p2 : Option Addr) : Prop where
  q1 : IsQ V (.agg #[.bool s1, u a1, u b1, .pointer p1]) r1
  q2 : IsQ V (.agg #[.bool s2, u a2, u b2, .pointer p2]) r2
  hb : Below w0.heap.size w0 V

section
variable {w0 V : World} {r1 r2 : Rat} {s1 s2 z1 z2 : Bool} {a1 b1 a2 b2 : Nat} {p1 p2 : Option Addr} {y1 y2 y3 y4 y5 y6 : Value}
theorem two_old {A C : Nat} (h : TwoIn w0 V r1 r2 s1 s2 a1 b1 a2 b2 p1 p2) (hA : Box V A (.bool z1) y1 y2 y3) (hC : Box V C (.bool z2) y4 y5 y6) (e : A ≠ C) (lA : w0.heap.size ≤ A) (lC : w0.heap.size ≤ C) :
    TwoB w0 r1 r2 (.pointer (some ⟨A, 0, none⟩)) (.pointer (some ⟨C, 0, none⟩)) (set4 (set4 V A (.bool s1) (u a1) (u b1) (.pointer p1)) C (.bool s2) (u a2) (u b2) (.pointer p2)) :=
  ⟨_, _, _, _, _, _, _, _, _, _, rfl, rfl, qc_box (box_other (box_set4 hA) e), qc_box (box_set4 (box_other hC (Ne.symm e))), isq_set4 (nb_set (Box.nbox hC)) (isq_set4 (Box.nbox hA) h.q1), isq_set4 (nb_set (Box.nbox hC)) (isq_set4 (Box.nbox hA) h.q2), bl_set4 (bl_set4 h.hb lA) lC⟩
theorem two_oldnew {A : Nat} (h : TwoIn w0 V r1 r2 s1 s2 a1 b1 a2 b2 p1 p2) (hA : Box V A (.bool z1) y1 y2 y3) (lA : w0.heap.size ≤ A) :
    TwoB w0 r1 r2 (.pointer (some ⟨A, 0, none⟩)) (.pointer (some ⟨V.heap.size, 0, none⟩)) ((set4 V A (.bool s1) (u a1) (u b1) (.pointer p1)).alloc (.cells #[.bool s2, u a2, u b2, .pointer p2] 26)) := by
  have hs : (set4 V A (.bool s1) (u a1) (u b1) (.pointer p1)).heap.size = V.heap.size := (only4 V A 0 _ _ _ _).size
  refine ⟨_, _, _, _, _, _, _, _, _, _, rfl, rfl, qc_alloc (qc_box (box_set4 hA)), ?_, isq_alloc (isq_set4 (Box.nbox hA) h.q1), isq_alloc (isq_set4 (Box.nbox hA) h.q2), al1 (bl_set4 h.hb lA)⟩
  rw [← hs]
  exact qc_new
theorem two_newold {C : Nat} (h : TwoIn w0 V r1 r2 s1 s2 a1 b1 a2 b2 p1 p2) (hC : Box V C (.bool z2) y4 y5 y6) (lC : w0.heap.size ≤ C) :
    TwoB w0 r1 r2 (.pointer (some ⟨V.heap.size, 0, none⟩)) (.pointer (some ⟨C, 0, none⟩)) ((set4 V C (.bool s2) (u a2) (u b2) (.pointer p2)).alloc (.cells #[.bool s1, u a1, u b1, .pointer p1] 26)) := by
  have hs : (set4 V C (.bool s2) (u a2) (u b2) (.pointer p2)).heap.size = V.heap.size := (only4 V C 0 _ _ _ _).size
  refine ⟨_, _, _, _, _, _, _, _, _, _, rfl, rfl, ?_, qc_alloc (qc_box (box_set4 hC)), isq_alloc (isq_set4 (Box.nbox hC) h.q1), isq_alloc (isq_set4 (Box.nbox hC) h.q2), al1 (bl_set4 h.hb lC)⟩
  rw [← hs]
  exact qc_new
theorem two_newold' {C : Nat} (h : TwoIn w0 V r1 r2 s1 s2 a1 b1 a2 b2 p1 p2) (hC : Box V C (.bool z2) y4 y5 y6) (lC : w0.heap.size ≤ C) :
    TwoB w0 r1 r2 (.pointer (some ⟨V.heap.size, 0, none⟩)) (.pointer (some ⟨C, 0, none⟩)) (set4 (V.alloc (.cells #[.bool s1, u a1, u b1, .pointer p1] 26)) C (.bool s2) (u a2) (u b2) (.pointer p2)) := by
  have e : V.heap.size ≠ C := Nat.ne_of_gt (box_lt hC)
  refine ⟨_, _, _, _, _, _, _, _, _, _, rfl, rfl, ?_, qc_box (box_set4 (box_alloc hC)), isq_set4 (nb_alloc (Box.nbox hC)) (isq_alloc h.q1), isq_set4 (nb_alloc (Box.nbox hC)) (isq_alloc h.q2), bl_set4 (al1 h.hb) lC⟩
  exact qc_box (box_other (heap_alloc_new V _) e)
theorem two_new (h : TwoIn w0 V r1 r2 s1 s2 a1 b1 a2 b2 p1 p2) :
    TwoB w0 r1 r2 (.pointer (some ⟨V.heap.size, 0, none⟩)) (.pointer (some ⟨V.heap.size + 1, 0, none⟩)) ((V.alloc (.cells #[.bool s1, u a1, u b1, .pointer p1] 26)).alloc (.cells #[.bool s2, u a2, u b2, .pointer p2] 26)) :=
  ⟨_, _, _, _, _, _, _, _, _, _, rfl, rfl, qc_alloc qc_new, qc_new1, isq_alloc (isq_alloc h.q1), isq_alloc (isq_alloc h.q2), al2 h.hb⟩
theorem two_new' (h : TwoIn w0 V r1 r2 s1 s2 a1 b1 a2 b2 p1 p2) :
    TwoB w0 r1 r2 (.pointer (some ⟨V.heap.size + 1, 0, none⟩)) (.pointer (some ⟨V.heap.size, 0, none⟩)) ((V.alloc (.cells #[.bool s2, u a2, u b2, .pointer p2] 26)).alloc (.cells #[.bool s1, u a1, u b1, .pointer p1] 26)) :=
  ⟨_, _, _, _, _, _, _, _, _, _, rfl, rfl, qc_new1, qc_alloc qc_new, isq_alloc (isq_alloc h.q1), isq_alloc (isq_alloc h.q2), al2 h.hb⟩
end

end Go.Proofs.YtccabfblgjcboaaGreatDoor

/- law.at: the number at a place between the ends of a span. -/
namespace Go.Proofs.YtccabfblgjcboaaGreatDoor
open Go Go.RowKit Go.Proofs Lim

/-- A place of 0 to 255, as a part of 1. -/
def partOf (m : Nat) : Rat := ((m : Int) : Rat) / ((255 : Int) : Rat)
theorem partOf_range {m : Nat} (h : m ≤ 255) : 0 ≤ partOf m ∧ partOf m ≤ 1 := by
  unfold partOf
  have h2 : (((255 : Int) : Rat)) = 255 := rfl
  have h0 : (0 : Rat) ≤ ((m : Int) : Rat) := Rat.intCast_le_intCast.2 (show (0 : Int) ≤ (m : Int) by omega)
  have h1 : ((m : Int) : Rat) ≤ 255 := Rat.intCast_le_intCast.2 (show (m : Int) ≤ (255 : Int) by omega)
  rw [h2, Rat.div_def]
  have h3 : (255 : Rat)⁻¹ * 255 = 1 := Rat.inv_mul_cancel _ (by decide)
  have h4 : (0 : Rat) < (255 : Rat)⁻¹ := Rat.inv_pos.2 (by decide)
  have h5 := Rat.mul_nonneg h0 (Rat.le_of_lt h4)
  have h6 := Rat.mul_nonneg (a := 255 - ((m : Int) : Rat)) (b := (255 : Rat)⁻¹) (by grind) (Rat.le_of_lt h4)
  constructor
  · exact h5
  · grind

set_option maxHeartbeats 2000000 in
theorem at_any (v : Value) (lo hi : Rat) (m : Nat) (w : World) (h : IsS w v lo hi) (hm : m ≤ 255) (z1 : Siz lo 20) (z2 : Siz hi 20) (hG : Gr w) :
    Calls Tryz.prog 73 #[v, .int .u8 (m : Int)] w (QNew w (lo + (hi - lo) * partOf m)) := by
  have HOf := Lib.hid (fun W hG => of_q (m : Int) 255 (by omega) (by omega) (by decide) (by decide) W hG)
  have HG := Lib.hid (fun W (hW : Below w.heap.size w W) => hG.below hW hG.size)
  have zk : Siz (partOf m) 2 := (siz_int (m : Int) (by omega) (by omega)).div (siz_int 255 (by decide) (by decide)) (by decide)
  have OMi := Lib.hid (fun v1 v2 W (hW : Below w.heap.size w W) h1 h2 => o_minus w hG v1 v2 hi lo W hW h1 h2 (z2.sz (by omega)) (z1.sz (by omega)))
  have OTi := Lib.hid (fun v1 v2 W (hW : Below w.heap.size w W) h1 h2 => o_times w hG v1 v2 (hi - lo) (partOf m) W hW h1 h2 ((z2.sub z1).sz (by omega)) (zk.sz (by omega)))
  have OPl := Lib.hid (fun v1 v2 W (hW : Below w.heap.size w W) h1 h2 => o_plus w hG v1 v2 lo ((hi - lo) * partOf m) W hW h1 h2 (z1.sz (by omega)) (((z2.sub z1).mul zk).sz (by omega)))
  obtain ⟨s1, a1, b1, p1, s2, a2, b2, p2, rfl, i1, i2⟩ := h
  have I1 := Lib.hid i1
  have I2 := Lib.hid i2
  have hw : IntKind.i64.wrap (m : Int) = (m : Int) := by rw [IntKind.wrap_i64]; omega
  clear z1 z2 zk hG i1 i2 hm
  go_enter Tryz.func73, Tryz.ntmps73
  go_wp2_with fail
  obtain ⟨Wa, hW, hb, hX⟩ := newbox8 w (.bool s1) (u a1) (u b1) (.pointer p1) (.bool s2) (u a2) (u b2) (.pointer p2)
  have hs : Wa.heap.size = w.heap.size + 1 := by rw [← hW]; show (w.heap.push _).size = _; simp
  rw [hW]; clear hW
  have HB := Lib.hid hb
  have QL := Lib.hid (I1.out.below hb (Nat.le_refl _))
  have QH := Lib.hid (I2.out.below hb (Nat.le_refl _))
  obtain ⟨Wb, hW, hb', hZ, hs'⟩ := nbox Wa (w.heap.size + 1) hs (.bool false) (.int .u64 0) (.int .u64 0) (.pointer none)
  rw [hW]; clear hW
  have HX := Lib.hid (Box8.below hX hb' (Nat.le_refl _))
  have HB := Lib.hid (chain1 HB.out hb')
  have QL := Lib.hid (QL.out.below hb' (Nat.le_refl _))
  have QH := Lib.hid (QH.out.below hb' (Nat.le_refl _))
  have HZ := Lib.hid hZ
  clear hb hb' hX hZ hs hs' I1 I2
  refine (HOf.out _ (HG.out _ HB.out)).mono ?_
  rintro e Wc (⟨h0, _⟩ | ⟨_, vk, rfl, hk, hb⟩)
  · exact absurd h0 (by decide)
  have hk : IsQ Wc vk (partOf m) := hk
  obtain ⟨s3, a3, b3, p3, rfl⟩ := hk.form
  have HX := Lib.hid (Box8.below HX.out hb (Nat.le_refl _))
  have HZ := Lib.hid (HZ.out.below hb (Nat.le_refl _))
  have HB := Lib.hid (chain1 HB.out hb)
  have QL := Lib.hid (QL.out.below hb (Nat.le_refl _))
  have QH := Lib.hid (QH.out.below hb (Nat.le_refl _))
  have QK := Lib.hid hk
  clear hb hk HOf
  generalize partOf m = pm at *
  go_upto_region 2 with fail
  obtain ⟨Wd, hW, hb, hK, hs⟩ := nbox Wc Wc.heap.size rfl (.bool s3) (u a3) (u b3) (.pointer p3)
  rw [hW]; clear hW
  have lz : w.heap.size + 1 < Wc.heap.size := (Array.getElem?_eq_some_iff.1 HZ.out).1
  have HX := Lib.hid (Box8.below HX.out hb (Nat.le_refl _))
  have HZ := Lib.hid (HZ.out.below hb (Nat.le_refl _))
  have HB := Lib.hid (chain1 HB.out hb)
  have QL := Lib.hid (QL.out.below hb (Nat.le_refl _))
  have QH := Lib.hid (QH.out.below hb (Nat.le_refl _))
  have QK := Lib.hid (QK.out.below hb (Nat.le_refl _))
  have HK := Lib.hid hK
  clear hb hK hs
  generalize Wc.heap.size = n5 at *
  have n1 : ¬ w.heap.size = w.heap.size + 1 := by omega
  have n2 : ¬ w.heap.size + 1 = w.heap.size := by omega
  have n3 : ¬ n5 = w.heap.size + 1 := by omega
  have n4 : ¬ w.heap.size + 1 = n5 := by omega
  clear lz
  have hb0 := Below.refl Wd.heap.size Wd
  have ql := QL.out
  have qh := QH.out
  have qk := QK.out
  obtain ⟨c0, c1, c2, c3, c4, c5, c6, c7⟩ := HX.out.cells
  obtain ⟨k0, k1, k2, k3⟩ := HK.out.cells
  go_region_held3 (fun w' => w'.cell? ⟨w.heap.size, 0, none⟩ = some (.bool s1) ∧ w'.cell? ⟨w.heap.size, 1, none⟩ = some (u a1) ∧ w'.cell? ⟨w.heap.size, 2, none⟩ = some (u b1) ∧ w'.cell? ⟨w.heap.size, 3, none⟩ = some (.pointer p1) ∧ w'.cell? ⟨w.heap.size, 4, none⟩ = some (.bool s2) ∧ w'.cell? ⟨w.heap.size, 5, none⟩ = some (u a2) ∧ w'.cell? ⟨w.heap.size, 6, none⟩ = some (u b2) ∧ w'.cell? ⟨w.heap.size, 7, none⟩ = some (.pointer p2) ∧ w'.cell? ⟨n5, 0, none⟩ = some (.bool s3) ∧ w'.cell? ⟨n5, 1, none⟩ = some (u a3) ∧ w'.cell? ⟨n5, 2, none⟩ = some (u b3) ∧ w'.cell? ⟨n5, 3, none⟩ = some (.pointer p3)) (go_keep) (first | ((with_reducible refine (OMi.out _ _ _ (chain1 HB.out hb0.drew) qh.drewn ql.drewn).mono ?_); rintro e V1 ⟨v1, rfl, t1, hb⟩; obtain ⟨x1, y1, w1, r1, rfl⟩ := t1.form; replace hb0 : Below Wd.heap.size Wd V1 := chain hb0 hb; clear hb; clear c0 c1 c2 c3 c4 c5 c6 c7 k0 k1 k2 k3; replace ql := QL.out.below hb0 (Nat.le_refl _); replace qh := QH.out.below hb0 (Nat.le_refl _); replace qk := QK.out.below hb0 (Nat.le_refl _); obtain ⟨c0, c1, c2, c3, c4, c5, c6, c7⟩ := (HX.out.below hb0 (Nat.le_refl _)).cells; obtain ⟨k0, k1, k2, k3⟩ := (HK.out.below hb0 (Nat.le_refl _)).cells) | ((with_reducible refine (OTi.out _ _ _ (chain1 HB.out hb0) t1 qk).mono ?_); rintro e V1 ⟨v2, rfl, t2, hb⟩; obtain ⟨x2, y2, w2, r2, rfl⟩ := t2.form; clear t1; replace hb0 : Below Wd.heap.size Wd V1 := chain1 hb0 hb; clear hb; clear c0 c1 c2 c3 c4 c5 c6 c7 k0 k1 k2 k3; replace ql := QL.out.below hb0 (Nat.le_refl _); replace qh := QH.out.below hb0 (Nat.le_refl _); replace qk := QK.out.below hb0 (Nat.le_refl _); obtain ⟨c0, c1, c2, c3, c4, c5, c6, c7⟩ := (HX.out.below hb0 (Nat.le_refl _)).cells; obtain ⟨k0, k1, k2, k3⟩ := (HK.out.below hb0 (Nat.le_refl _)).cells) | ((with_reducible refine (OPl.out _ _ _ (chain1 HB.out hb0) ql t2).mono ?_); rintro e V1 ⟨v3, rfl, t3, hb⟩; obtain ⟨x3, y3, w3, r3, rfl⟩ := t3.form; clear t2; replace hb0 : Below Wd.heap.size Wd V1 := chain1 hb0 hb; clear hb; clear c0 c1 c2 c3 c4 c5 c6 c7 k0 k1 k2 k3; replace ql := QL.out.below hb0 (Nat.le_refl _); replace qh := QH.out.below hb0 (Nat.le_refl _); replace qk := QK.out.below hb0 (Nat.le_refl _); obtain ⟨c0, c1, c2, c3, c4, c5, c6, c7⟩ := (HX.out.below hb0 (Nat.le_refl _)).cells; obtain ⟨k0, k1, k2, k3⟩ := (HK.out.below hb0 (Nat.le_refl _)).cells; have hz := HZ.out.below hb0 (Nat.le_refl _); have zf := hz.frozen; obtain ⟨z0, z1, z2, z3⟩ := hz.cells; have zf0 := zf 0; have zf1 := zf 1; have zf2 := zf 2; have zf3 := zf 3; clear zf) | fail)
  have HFin := Lib.hid (QNew.stored (a0 := .bool x3) (a1 := u y3) (a2 := u w3) (a3 := .pointer r3) hz t3 (chain1 HB.out hb0) (by omega))
  clear hz t3 hb0 ql qh qk c0 c1 c2 c3 c4 c5 c6 c7 k0 k1 k2 k3
  go_wp2_with fail
  refine bodyPost_ret (v := .agg #[.bool x3, u y3, u w3, .pointer r3]) (by simp [results, Tryz.results73, go_sem, z0, z1, z2, z3]) rfl ?_
  exact HFin.out

end Go.Proofs.YtccabfblgjcboaaGreatDoor

/- Classes of symbols: numbers, texts, small integers, lists of texts; what calls do with them. -/
namespace Go.Proofs.YtccabfblgjcboaaGreatDoor
open Go Go.RowKit Go.Proofs Lim

theorem IsNat.other' {W W' : World} {R : Nat} {cs : Array Value} {t : TypeId} {v : Value} {n : Nat} (hb : W.heap[R]? = some (.cells cs t (0, 0))) (ht : t ≠ 23) (h : IsNat W v n) (ho : Only R W W') : IsNat W' v n := by
  obtain ⟨xs, ⟨⟨ao, c, rfl, h1, h2, hr⟩, ok, typ⟩, htr, hv⟩ := h
  refine ⟨xs, ⟨⟨ao, c, rfl, h1, h2, fun hn => ?_⟩, ok, typ.other hb ht ho⟩, htr, hv⟩
  obtain ⟨b, off, rfl, row⟩ := hr hn
  refine ⟨b, off, rfl, ho.row ?_ row⟩
  intro e
  obtain ⟨cs', fr', hc⟩ := typ ⟨b, off, none⟩ _ _ rfl hn
  rw [show (⟨b, off, none⟩ : Addr).block = R from e, hb] at hc
  injection hc with hc
  injection hc with _ hc
  exact ht hc
theorem IsQ.other' {W W' : World} {R : Nat} {cs : Array Value} {t : TypeId} {v : Value} {r : Rat} (hb : W.heap[R]? = some (.cells cs t (0, 0))) (ht : t ≠ 23) (hz : ∀ x, cs[0]? = some x → Sym.noSl x = true) (h : IsQ W v r) (ho : Only R W W') : IsQ W' v r := by
  have h : Num W v _ _ _ := h
  show Num W' v _ _ _
  cases h with
  | low l hv hd hn hdB => exact .low l hv hd hn hdB
  | wide b x y hv hx hy h1 h2 hB h0 hd =>
    have hbR : b ≠ R := by
      intro e
      subst e
      obtain ⟨_, _, _, rfl, _⟩ := h1.form
      rw [World.cell?, hb] at hx
      have := hz _ (by simpa using hx)
      simp [Sym.noSl] at this
    exact .wide b x y hv ((ho.cell (p := ⟨b, 0, none⟩) hbR).trans hx) ((ho.cell (p := ⟨b, 1, none⟩) hbR).trans hy) (h1.other' hb ht ho) (h2.other' hb ht ho) hB h0 hd

namespace Sym

/-- A number r of at most k limbs. -/
def clQ (r : Rat) (k : Nat) : Cl := ⟨4, true, fun w f => IsQ w (.agg #[f 0, f 1, f 2, f 3]) r ∧ Siz r k⟩
/-- A list of texts. -/
def clT (ls : List (List UInt8)) : Cl := ⟨1, false, fun w f => ∃ b, f 0 = .slice (some ⟨b, 0, none⟩) ls.length ls.length ∧ w.heap[b]? = some (.cells (ls.map str).toArray 9 (0, 0))⟩

theorem clQ_ok {okT : List Nat} {B : Nat} (ht : ∀ t ∈ okT, t ≠ 23) (r : Rat) (k : Nat) : (clQ r k).Ok okT B := by
  refine ⟨fun w w' f hb h => ⟨h.1.below hb (Nat.le_refl _), h.2⟩, fun w w' R f cs t _ ho hm hz hb h => ⟨h.1.other' ho (ht t hm) hz hb, h.2⟩, ?_, ?_⟩
  · intro w f _ h
    obtain ⟨neg, a, b, p, hv⟩ := h.1.form
    injection hv with hv
    have : f 0 = .bool neg := by have := congrArg (fun x => x[0]?) hv; simpa using this
    rw [this]; rfl
  · intro w f j h hj
    obtain ⟨neg, a, b, p, hv⟩ := h.1.form
    injection hv with hv
    have h0 : f 0 = .bool neg := by have := congrArg (fun x => x[0]?) hv; simpa using this
    have h1 : f 1 = u a := by have := congrArg (fun x => x[1]?) hv; simpa using this
    have h2 : f 2 = u b := by have := congrArg (fun x => x[2]?) hv; simpa using this
    have h3 : f 3 = .pointer p := by have := congrArg (fun x => x[3]?) hv; simpa using this
    have hj : j < 4 := hj
    match j, hj with
    | 0, _ => rw [h0]; rfl
    | 1, _ => rw [h1]; rfl
    | 2, _ => rw [h2]; rfl
    | 3, _ => rw [h3]; rfl
theorem clT_ok {okT : List Nat} {B : Nat} (ht : ∀ t ∈ okT, t ≠ 9) (ls : List (List UInt8)) : (clT ls).Ok okT B := by
  refine ⟨?_, ?_, ?_, ?_⟩
  · rintro w w' f hb ⟨b, h1, h2⟩
    exact ⟨b, h1, (hb.block b (Array.getElem?_eq_some_iff.1 h2).1).trans h2⟩
  · rintro w w' R f cs t _ ho hm hz hb ⟨b, h1, h2⟩
    refine ⟨b, h1, (hb.block b ?_).trans h2⟩
    intro e
    subst e
    rw [ho] at h2
    injection h2 with h2
    injection h2 with _ h2
    exact ht t hm h2
  · intro w f h; cases h
  · rintro w f j ⟨b, h1, h2⟩ hj
    have hj : j < 1 := hj
    obtain rfl : j = 0 := by omega
    rw [h1]; rfl

def qp (c : Nat) : Pat := .agg [.cls c 4]
def sp (c d : Nat) : Pat := .agg [.cls c 4, .cls d 4]

section
variable {csz : List Nat} {numc : List Bool} {okT : List Nat} {nt : Nat} {cl : List Cl} {w0 : World} {w : World} {v : Value} {p1 p2 p3 p4 : Pat} {c d c1 c2 c3 c4 c5 c6 : Nat} {r s t r1 r2 r3 r4 : Rat} {k k1 k2 k3 k4 k5 k6 : Nat}

theorem cells4 (f : Nat → Value) : (List.range 4).map f = [f 0, f 1, f 2, f 3] := rfl
theorem qp_is (h : cl[c]? = some (clQ r k)) : (qp c).is (mkC csz numc okT nt cl w0) w v ↔ IsQ w v r ∧ Siz r k := by
  constructor
  · rintro ⟨vs, ⟨xs, ys, rfl, ⟨f, hE, rfl⟩, hy⟩, rfl⟩
    rw [show ys = [] from hy]
    simp only [mkC, h] at hE
    exact hE
  · rintro ⟨h1, h2⟩
    obtain ⟨neg, a, b, p, rfl⟩ := h1.form
    refine ⟨[.bool neg, u a, u b, .pointer p], ⟨_, [], (List.append_nil _).symm, ⟨fun j => [Value.bool neg, u a, u b, .pointer p].getD j undef, ?_, rfl⟩, rfl⟩, rfl⟩
    simp only [mkC, h]
    exact ⟨h1, h2⟩
theorem sp_is (h : cl[c]? = some (clQ r k)) (h' : cl[d]? = some (clQ s k1)) : (sp c d).is (mkC csz numc okT nt cl w0) w v ↔ IsS w v r s ∧ Siz r k ∧ Siz s k1 := by
  constructor
  · rintro ⟨vs, ⟨xs, ys, rfl, ⟨f, hE, rfl⟩, ⟨xs', ys', rfl, ⟨f', hE', rfl⟩, hy⟩⟩, rfl⟩
    rw [show ys' = [] from hy]
    simp only [mkC, h] at hE
    simp only [mkC, h'] at hE'
    obtain ⟨s1, a1, b1, p1, e1⟩ := hE.1.form
    obtain ⟨s2, a2, b2, p2, e2⟩ := hE'.1.form
    refine ⟨⟨s1, a1, b1, p1, s2, a2, b2, p2, ?_, e1 ▸ hE.1, e2 ▸ hE'.1⟩, hE.2, hE'.2⟩
    injection e1 with e1
    injection e2 with e2
    have g0 : f 0 = .bool s1 := by have := congrArg (fun x => x[0]?) e1; simpa using this
    have g1 : f 1 = u a1 := by have := congrArg (fun x => x[1]?) e1; simpa using this
    have g2 : f 2 = u b1 := by have := congrArg (fun x => x[2]?) e1; simpa using this
    have g3 : f 3 = .pointer p1 := by have := congrArg (fun x => x[3]?) e1; simpa using this
    have i0 : f' 0 = .bool s2 := by have := congrArg (fun x => x[0]?) e2; simpa using this
    have i1 : f' 1 = u a2 := by have := congrArg (fun x => x[1]?) e2; simpa using this
    have i2 : f' 2 = u b2 := by have := congrArg (fun x => x[2]?) e2; simpa using this
    have i3 : f' 3 = .pointer p2 := by have := congrArg (fun x => x[3]?) e2; simpa using this
    simp [cells4, g0, g1, g2, g3, i0, i1, i2, i3]
  · rintro ⟨⟨s1, a1, b1, p1, s2, a2, b2, p2, rfl, h1, h2⟩, z1, z2⟩
    refine ⟨[.bool s1, u a1, u b1, .pointer p1, .bool s2, u a2, u b2, .pointer p2], ⟨[.bool s1, u a1, u b1, .pointer p1], [.bool s2, u a2, u b2, .pointer p2], rfl, ⟨fun j => [Value.bool s1, u a1, u b1, .pointer p1].getD j undef, ?_, rfl⟩, ⟨_, [], (List.append_nil _).symm, ⟨fun j => [Value.bool s2, u a2, u b2, .pointer p2].getD j undef, ?_, rfl⟩, rfl⟩⟩, rfl⟩
    · simp only [mkC, h]; exact ⟨h1, z1⟩
    · simp only [mkC, h']; exact ⟨h2, z2⟩
theorem op_isT {ls : List (List UInt8)} (h : cl[c]? = some (clT ls)) : (op c).is (mkC csz numc okT nt cl w0) w v ↔ ∃ b, v = .slice (some ⟨b, 0, none⟩) ls.length ls.length ∧ w.heap[b]? = some (.cells (ls.map str).toArray 9 (0, 0)) := by
  constructor
  · rintro ⟨f, hE, hv⟩
    simp only [mkC, h] at hE
    have : v = f 0 := by simpa [List.range_succ] using hv
    rw [this]; exact hE
  · intro hv
    refine ⟨fun _ => v, ?_, rfl⟩
    simp only [mkC, h]
    exact hv

/-- A pattern of a number; of a span. -/
def PQ (csz : List Nat) (numc : List Bool) (okT : List Nat) (nt : Nat) (cl : List Cl) (w0 : World) (p : Pat) (r : Rat) (k : Nat) : Prop := ∀ w v, p.is (mkC csz numc okT nt cl w0) w v → IsQ w v r ∧ Siz r k
def PS (csz : List Nat) (numc : List Bool) (okT : List Nat) (nt : Nat) (cl : List Cl) (w0 : World) (p : Pat) (r : Rat) (k : Nat) (s : Rat) (j : Nat) : Prop := ∀ w v, p.is (mkC csz numc okT nt cl w0) w v → IsS w v r s ∧ Siz r k ∧ Siz s j
theorem pq (h : cl[c]? = some (clQ r k)) : PQ csz numc okT nt cl w0 (qp c) r k := fun _ _ h1 => (qp_is h).1 h1
theorem ps (h : cl[c]? = some (clQ r k)) (h' : cl[d]? = some (clQ s k1)) : PS csz numc okT nt cl w0 (sp c d) r k s k1 := fun _ _ h1 => (sp_is h h').1 h1
/-- The number 0, as its zero value. -/
def zq : Pat := .agg [.lit (.bool false), .lit (.int .u64 0), .lit (.int .u64 0), .lit (.pointer none)]
theorem pq0 : PQ csz numc okT nt cl w0 zq 0 1 := by
  rintro w v ⟨vs, ⟨_, _, rfl, rfl, _, _, rfl, rfl, _, _, rfl, rfl, _, _, rfl, rfl, rfl⟩, rfl⟩
  exact ⟨zero_val _, Siz.zero _ (by decide)⟩

/-- Sizes that fit. -/
def fits (n k : Nat) : Bool := Nat.ble n k && Nat.ble k 1000000
theorem fits_le {n k : Nat} (h : fits n k = true) : n ≤ k ∧ k ≤ 1000000 := by
  simp only [fits, Bool.and_eq_true] at h
  exact ⟨Nat.le_of_ble_eq_true h.1, Nat.le_of_ble_eq_true h.2⟩

/-- One number to a number. -/
theorem ent_qq {f : Nat} (hE : Enters Tryz.prog f) (h1 : PQ csz numc okT nt cl w0 p1 r k1) (h2 : cl[c2]? = some (clQ t k2)) (hz : Siz r k1 → Siz t k2)
    (hc : ∀ W v, Below w0.heap.size w0 W → IsQ W v r → Siz r k1 → Calls Tryz.prog f #[v] W (QNew W t)) : V csz numc okT nt cl w0 (.call f) [p1] (.val (qp c2)) := by
  refine ⟨hE, fun w vs hb hvs => ?_⟩
  obtain ⟨v1, _, rfl, h4, rfl⟩ := hvs
  have h4 := h1 _ _ h4
  refine (hc w v1 hb h4.1 h4.2).mono ?_
  rintro e w' ⟨v, rfl, hv, hb'⟩
  exact ⟨v, rfl, (qp_is h2).2 ⟨hv, hz h4.2⟩, hb'⟩
/-- Two numbers to a number. -/
theorem ent_qqq {f : Nat} (hE : Enters Tryz.prog f) (h1 : PQ csz numc okT nt cl w0 p1 r k1) (h2 : PQ csz numc okT nt cl w0 p2 s k2) (h3 : cl[c3]? = some (clQ t k3)) (hz : Siz r k1 → Siz s k2 → Siz t k3)
    (hc : ∀ W v1 v2, Below w0.heap.size w0 W → IsQ W v1 r → Siz r k1 → IsQ W v2 s → Siz s k2 → Calls Tryz.prog f #[v1, v2] W (QNew W t)) : V csz numc okT nt cl w0 (.call f) [p1, p2] (.val (qp c3)) := by
  refine ⟨hE, fun w vs hb hvs => ?_⟩
  obtain ⟨v1, _, rfl, h4, v2, _, rfl, h5, rfl⟩ := hvs
  have h4 := h1 _ _ h4
  have h5 := h2 _ _ h5
  refine (hc w v1 v2 hb h4.1 h4.2 h5.1 h5.2).mono ?_
  rintro e w' ⟨v, rfl, hv, hb'⟩
  exact ⟨v, rfl, (qp_is h3).2 ⟨hv, hz h4.2 h5.2⟩, hb'⟩
/-- One number to a known value. -/
theorem ent_qv {f : Nat} {x : Value} (hE : Enters Tryz.prog f) (h1 : PQ csz numc okT nt cl w0 p1 r k1)
    (hc : ∀ W v, Below w0.heap.size w0 W → IsQ W v r → Siz r k1 → Calls Tryz.prog f #[v] W (Val W x)) : V csz numc okT nt cl w0 (.call f) [p1] (.val (vp x)) := by
  refine ⟨hE, fun w vs hb hvs => ?_⟩
  obtain ⟨v1, _, rfl, h4, rfl⟩ := hvs
  have h4 := h1 _ _ h4
  refine (hc w v1 hb h4.1 h4.2).mono ?_
  rintro e w' ⟨rfl, hb'⟩
  exact ⟨_, rfl, vp_r _ _ _, hb'⟩
theorem ent_qqv {f : Nat} {x : Value} (hE : Enters Tryz.prog f) (h1 : PQ csz numc okT nt cl w0 p1 r k1) (h2 : PQ csz numc okT nt cl w0 p2 s k2)
    (hc : ∀ W v1 v2, Below w0.heap.size w0 W → IsQ W v1 r → Siz r k1 → IsQ W v2 s → Siz s k2 → Calls Tryz.prog f #[v1, v2] W (Val W x)) : V csz numc okT nt cl w0 (.call f) [p1, p2] (.val (vp x)) := by
  refine ⟨hE, fun w vs hb hvs => ?_⟩
  obtain ⟨v1, _, rfl, h4, v2, _, rfl, h5, rfl⟩ := hvs
  have h4 := h1 _ _ h4
  have h5 := h2 _ _ h5
  refine (hc w v1 v2 hb h4.1 h4.2 h5.1 h5.2).mono ?_
  rintro e w' ⟨rfl, hb'⟩
  exact ⟨_, rfl, vp_r _ _ _, hb'⟩
/-- A span to a span. -/
theorem ent_ss {f : Nat} (hE : Enters Tryz.prog f) (h1 : PS csz numc okT nt cl w0 p1 r1 k1 r2 k2) (h5 : cl[c5]? = some (clQ r k5)) (h6 : cl[c6]? = some (clQ s k6)) (hz : Siz r1 k1 → Siz r2 k2 → Siz r k5 ∧ Siz s k6)
    (hc : ∀ W v, Below w0.heap.size w0 W → IsS W v r1 r2 → Siz r1 k1 → Siz r2 k2 → Calls Tryz.prog f #[v] W (SpNew W r s)) : V csz numc okT nt cl w0 (.call f) [p1] (.val (sp c5 c6)) := by
  refine ⟨hE, fun w vs hb hvs => ?_⟩
  obtain ⟨v1, _, rfl, h7, rfl⟩ := hvs
  have h7 := h1 _ _ h7
  refine (hc w v1 hb h7.1 h7.2.1 h7.2.2).mono ?_
  rintro e w' ⟨v, rfl, hv, hb'⟩
  exact ⟨v, rfl, (sp_is h5 h6).2 ⟨hv, hz h7.2.1 h7.2.2⟩, hb'⟩
/-- Two spans to a span. -/
theorem ent_sss {f : Nat} (hE : Enters Tryz.prog f) (h1 : PS csz numc okT nt cl w0 p1 r1 k1 r2 k2) (h3 : PS csz numc okT nt cl w0 p3 r3 k3 r4 k4) (h5 : cl[c5]? = some (clQ r k5)) (h6 : cl[c6]? = some (clQ s k6))
    (hz : Siz r1 k1 → Siz r2 k2 → Siz r3 k3 → Siz r4 k4 → Siz r k5 ∧ Siz s k6)
    (hc : ∀ W v1 v2, Below w0.heap.size w0 W → IsS W v1 r1 r2 → IsS W v2 r3 r4 → Siz r1 k1 → Siz r2 k2 → Siz r3 k3 → Siz r4 k4 → Calls Tryz.prog f #[v1, v2] W (SpNew W r s)) : V csz numc okT nt cl w0 (.call f) [p1, p3] (.val (sp c5 c6)) := by
  refine ⟨hE, fun w vs hb hvs => ?_⟩
  obtain ⟨v1, _, rfl, h7, v2, _, rfl, h8, rfl⟩ := hvs
  have h7 := h1 _ _ h7
  have h8 := h3 _ _ h8
  refine (hc w v1 v2 hb h7.1 h8.1 h7.2.1 h7.2.2 h8.2.1 h8.2.2).mono ?_
  rintro e w' ⟨v, rfl, hv, hb'⟩
  exact ⟨v, rfl, (sp_is h5 h6).2 ⟨hv, hz h7.2.1 h7.2.2 h8.2.1 h8.2.2⟩, hb'⟩

theorem en {f : Nat} {fn : Func} {c : Code} (hf : Tryz.prog.funcs[f]? = some fn) (hname : (fn.name == "runtime.NumGoroutine") = false) (hb : fn.body = some c) : Enters Tryz.prog f := enters_of hf hname hb

theorem e_plus (hG : Gr w0) (h1 : PQ csz numc okT nt cl w0 p1 r k1) (h2 : PQ csz numc okT nt cl w0 p2 s k2) (h3 : cl[c3]? = some (clQ (r + s) k3)) (hk : fits (k1 + k2 + 1) k3 = true) : V csz numc okT nt cl w0 (.call 25) [p1, p2] (.val (qp c3)) := by
  have hk := fits_le hk
  exact ent_qqq (enters_of Tryz.func25 (by kernel_rfl) rfl) h1 h2 h3 (fun z1 z2 => (z1.add z2).le (by omega)) (fun W v1 v2 hb q1 z1 q2 z2 => plus_q v1 v2 r s k3 W q1 q2 (z1.le (by omega)) (z2.le (by omega)) (by omega) (hG.below hb hG.size))
theorem e_minus (hG : Gr w0) (h1 : PQ csz numc okT nt cl w0 p1 r k1) (h2 : PQ csz numc okT nt cl w0 p2 s k2) (h3 : cl[c3]? = some (clQ (r - s) k3)) (hk : fits (k1 + k2 + 1) k3 = true) : V csz numc okT nt cl w0 (.call 27) [p1, p2] (.val (qp c3)) := by
  have hk := fits_le hk
  exact ent_qqq (enters_of Tryz.func27 (by kernel_rfl) rfl) h1 h2 h3 (fun z1 z2 => (z1.sub z2).le (by omega)) (fun W v1 v2 hb q1 z1 q2 z2 => minus_q v1 v2 r s k3 W q1 q2 (z1.le (by omega)) (z2.le (by omega)) (by omega) (hG.below hb hG.size))
theorem e_times (hG : Gr w0) (h1 : PQ csz numc okT nt cl w0 p1 r k1) (h2 : PQ csz numc okT nt cl w0 p2 s k2) (h3 : cl[c3]? = some (clQ (r * s) k3)) (hk : fits (k1 + k2) k3 = true) : V csz numc okT nt cl w0 (.call 29) [p1, p2] (.val (qp c3)) := by
  have hk := fits_le hk
  exact ent_qqq (enters_of Tryz.func29 (by kernel_rfl) rfl) h1 h2 h3 (fun z1 z2 => (z1.mul z2).le (by omega)) (fun W v1 v2 hb q1 z1 q2 z2 => times_q v1 v2 r s k3 W q1 q2 (z1.le (by omega)) (z2.le (by omega)) (by omega) (hG.below hb hG.size))
theorem e_neg (h1 : PQ csz numc okT nt cl w0 p1 r k1) (h2 : cl[c2]? = some (clQ (-r) k2)) (hk : fits k1 k2 = true) : V csz numc okT nt cl w0 (.call 37) [p1] (.val (qp c2)) :=
  ent_qq (enters_of Tryz.func37 (by kernel_rfl) rfl) h1 h2 (fun z => z.neg.le (fits_le hk).1) (fun W v _ q _ => neg_q v r W q)
theorem absQ_siz (z : Siz r k) : Siz (absQ r) k := by
  unfold absQ
  split
  · exact z.neg
  · exact z
theorem e_abs (h1 : PQ csz numc okT nt cl w0 p1 r k1) (h2 : cl[c2]? = some (clQ (absQ r) k2)) (hk : fits k1 k2 = true) : V csz numc okT nt cl w0 (.call 39) [p1] (.val (qp c2)) :=
  ent_qq (enters_of Tryz.func39 (by kernel_rfl) rfl) h1 h2 (fun z => (absQ_siz z).le (fits_le hk).1) (fun W v _ q _ => abs_q v r W q)
theorem e_floor (hG : Gr w0) (h1 : PQ csz numc okT nt cl w0 p1 r k1) (h2 : cl[c2]? = some (clQ ((r.floor : Int) : Rat) k2)) (h0 : Nat.ble 1 k1 = true) (hk : fits (k1 + 2) k2 = true) : V csz numc okT nt cl w0 (.call 41) [p1] (.val (qp c2)) := by
  have hk := fits_le hk
  have h0 := Nat.le_of_ble_eq_true h0
  exact ent_qq (enters_of Tryz.func41 (by kernel_rfl) rfl) h1 h2 (fun z => (z.floor h0).le hk.1) (fun W v hb q z => floor_q v r k1 W q z h0 (by omega) (hG.below hb hG.size))
theorem e_ceil (hG : Gr w0) (h1 : PQ csz numc okT nt cl w0 p1 r k1) (h2 : cl[c2]? = some (clQ ((r.ceil : Int) : Rat) k2)) (h0 : Nat.ble 1 k1 = true) (hk : fits (k1 + 2) k2 = true) : V csz numc okT nt cl w0 (.call 43) [p1] (.val (qp c2)) := by
  have hk := fits_le hk
  have h0 := Nat.le_of_ble_eq_true h0
  exact ent_qq (enters_of Tryz.func43 (by kernel_rfl) rfl) h1 h2 (fun z => (z.ceil h0).le hk.1) (fun W v hb q z => ceil_q v r k1 W q z h0 (by omega) (hG.below hb hG.size))
theorem e_sign {x : Int} (h1 : PQ csz numc okT nt cl w0 p1 r k1) (hx : sign r = x) : V csz numc okT nt cl w0 (.call 19) [p1] (.val (vp (.int .i64 x))) :=
  ent_qv (enters_of Tryz.func19 (by kernel_rfl) rfl) h1 (fun W v _ q _ => hx ▸ sign_q v r W q)
theorem e_cmp {x : Int} (h1 : PQ csz numc okT nt cl w0 p1 r k1) (h2 : PQ csz numc okT nt cl w0 p2 s k2) (hk : fits (k1 + k2) 1000000 = true) (hx : cmpQ r s = x) : V csz numc okT nt cl w0 (.call 31) [p1, p2] (.val (vp (.int .i64 x))) := by
  have hk := fits_le hk
  exact ent_qqv (enters_of Tryz.func31 (by kernel_rfl) rfl) h1 h2 (fun W v1 v2 _ q1 z1 q2 z2 => hx ▸ cmp_q v1 v2 r s (k1 + k2) W q1 q2 (z1.le (by omega)) (z2.le (by omega)) (by omega))
theorem e_equal {x : Bool} (h1 : PQ csz numc okT nt cl w0 p1 r k1) (h2 : PQ csz numc okT nt cl w0 p2 s k2) (hk : fits (k1 + k2) 1000000 = true) (hx : decide (r = s) = x) : V csz numc okT nt cl w0 (.call 74) [p1, p2] (.val (vp (.bool x))) := by
  have hk := fits_le hk
  exact ent_qqv (enters_of Tryz.func74 (by kernel_rfl) rfl) h1 h2 (fun W v1 v2 _ q1 z1 q2 z2 => hx ▸ equal_any v1 v2 r s (k1 + k2) W q1 q2 (z1.le (by omega)) (z2.le (by omega)) (by omega))
theorem e_over (hG : Gr w0) (h1 : PQ csz numc okT nt cl w0 p1 r k1) (h2 : PQ csz numc okT nt cl w0 p2 s k2) (h3 : cl[c3]? = some (clQ (r / s) k3)) (hk : fits (k1 + k2) k3 = true) (h0 : s ≠ 0) : V csz numc okT nt cl w0 (.call 34) [p1, p2] (.tup [qp c3, vp (.int .i64 0)]) := by
  have hk := fits_le hk
  have hn : s.num ≠ 0 := fun e => h0 (num_zero.1 e)
  refine ⟨enters_of Tryz.func34 (by kernel_rfl) rfl, fun w vs hb hvs => ?_⟩
  obtain ⟨v1, _, rfl, h4, v2, _, rfl, h5, rfl⟩ := hvs
  have h4 := h1 _ _ h4
  have h5 := h2 _ _ h5
  refine (over_q v1 v2 r s k3 w h4.1 h5.1 hn (h4.2.le (by omega)) (h5.2.le (by omega)) (by omega) (hG.below hb hG.size)).mono ?_
  rintro e w' ⟨v, rfl, hv, hb'⟩
  exact ⟨_, rfl, ⟨_, ⟨_, _, rfl, (qp_is h3).2 ⟨hv, (h4.2.div h5.2 hn).le hk.1⟩, _, _, rfl, vp_is.2 rfl, rfl⟩, rfl⟩, hb'⟩
theorem e_over0 (h1 : PQ csz numc okT nt cl w0 p1 r k1) (h2 : PQ csz numc okT nt cl w0 p2 s k2) (h3 : cl[c3]? = some (clQ 0 k3)) (hk : fits 1 k3 = true) (h0 : s = 0) : V csz numc okT nt cl w0 (.call 34) [p1, p2] (.tup [qp c3, vp (.int .i64 10)]) := by
  refine ⟨enters_of Tryz.func34 (by kernel_rfl) rfl, fun w vs hb hvs => ?_⟩
  obtain ⟨v1, _, rfl, h4, v2, _, rfl, h5, rfl⟩ := hvs
  have h4 := h1 _ _ h4
  have h5 := h2 _ _ h5
  refine (over_zero v1 v2 r s w h4.1 h5.1 (num_zero.2 h0)).mono ?_
  rintro e w' ⟨rfl, hb'⟩
  exact ⟨_, rfl, ⟨_, ⟨_, _, rfl, (qp_is h3).2 ⟨zero_val _, Siz.zero _ (fits_le hk).1⟩, _, _, rfl, vp_is.2 rfl, rfl⟩, rfl⟩, hb'⟩
theorem e_int (i : Int) (hi : (decide (-9223372036854775808 ≤ i) && decide (i ≤ 9223372036854775807)) = true) (h1 : cl[c1]? = some (clQ (i : Rat) k1)) (hk : fits 1 k1 = true) : V csz numc okT nt cl w0 (.call 15) [vp (.int .i64 i)] (.val (qp c1)) := by
  simp only [Bool.and_eq_true, decide_eq_true_eq] at hi
  refine ⟨enters_of Tryz.func15 (by kernel_rfl) rfl, fun w vs hb hvs => ?_⟩
  obtain ⟨v1, _, rfl, h4, rfl⟩ := hvs
  have h4 := vp_is.1 h4
  subst h4
  refine (int_q i hi.1 hi.2 w).mono ?_
  rintro e w' ⟨v, rfl, hv, hb'⟩
  exact ⟨v, rfl, (qp_is h1).2 ⟨hv, (siz_int i hi.1 hi.2).le (fits_le hk).1⟩, hb'⟩
theorem e_known (hG : Gr w0) : V csz numc okT nt cl w0 (.call 10) [] (.val (vp (.bool true))) := by
  refine ⟨enters_of Tryz.func10 (by kernel_rfl) rfl, fun w vs hb hvs => ?_⟩
  have hvs : vs = [] := hvs
  subst hvs
  refine (known_any w (hG.below hb hG.size)).mono ?_
  rintro e w' ⟨rfl, hb'⟩
  exact ⟨_, rfl, vp_r _ _ _, hb'⟩
theorem e_number (hG : Gr w0) {l : List UInt8} (h1 : cl[c1]? = some (clV (str l))) (h2 : cl[c2]? = some (clQ (readQ l).1 k2)) {n : Nat} (hl : l.length ≤ n) (hn : Nat.ble n 100000 = true) (hk : fits (n + 1) k2 = true) : V csz numc okT nt cl w0 (.call 72) [op c1] (.val (qp c2)) := by
  have hk := fits_le hk
  have hn := Nat.le_of_ble_eq_true hn
  refine ⟨enters_of Tryz.func72 (by kernel_rfl) rfl, fun w vs hb hvs => ?_⟩
  obtain ⟨v1, _, rfl, h4, rfl⟩ := hvs
  have h4 := (op_is h1).1 h4
  subst h4
  refine (number_any l w (by omega) (hG.below hb hG.size)).mono ?_
  rintro e w' ⟨v, rfl, hv, hb'⟩
  exact ⟨v, rfl, (qp_is h2).2 ⟨hv, (Siz.read l (L := n + 1) (k := n + 1) (by omega) (by omega) (by omega)).le hk.1⟩, hb'⟩
end
end Sym
end Go.Proofs.YtccabfblgjcboaaGreatDoor

/- Integers and lists of digits (of the reference) as classes; their operations. -/
namespace Go.Proofs.YtccabfblgjcboaaGreatDoor
open Go Go.RowKit Go.Proofs Lim
namespace Sym

abbrev ii (n : Int) : Value := .int .i64 n
/-- A slice of small integers, read only. -/
def Dg (w : World) (v : Value) (ds : List Nat) : Prop := ∃ ao cap, v = .slice ao ds.length cap ∧ ds.length ≤ cap ∧ (cap : Int) ≤ 9223372036854775807 ∧
  (0 < ds.length → ∃ b off, ao = some ⟨b, off, none⟩ ∧ (∃ cs fr, w.heap[b]? = some (.cells cs 3 fr)) ∧ ∀ i, i < ds.length → w.cell? ⟨b, off + i, none⟩ = some (ii ((ds.getD i 0 : Nat) : Int)))
theorem Dg.below {w w' : World} {v : Value} {ds : List Nat} {B : Nat} (h : Dg w v ds) (hb : Below B w w') (hB : w.heap.size ≤ B) : Dg w' v ds := by
  obtain ⟨ao, cap, hv, h1, h2, h3⟩ := h
  refine ⟨ao, cap, hv, h1, h2, fun hn => ?_⟩
  obtain ⟨b, off, ha, ⟨cs, fr, hc⟩, hr⟩ := h3 hn
  have hlt : b < B := Nat.lt_of_lt_of_le (Array.getElem?_eq_some_iff.1 hc).1 hB
  exact ⟨b, off, ha, ⟨cs, fr, (hb.block b hlt).trans hc⟩, fun i hi => (hb.cell (p := ⟨b, off + i, none⟩) hlt).trans (hr i hi)⟩
theorem Dg.only {w w' : World} {v : Value} {ds : List Nat} {R : Nat} {cs : Array Value} {t : TypeId} (hR : w.heap[R]? = some (.cells cs t (0, 0))) (ht : t ≠ 3) (h : Dg w v ds) (ho : Only R w w') : Dg w' v ds := by
  obtain ⟨ao, cap, hv, h1, h2, h3⟩ := h
  refine ⟨ao, cap, hv, h1, h2, fun hn => ?_⟩
  obtain ⟨b, off, ha, ⟨cs', fr, hc⟩, hr⟩ := h3 hn
  have hne : b ≠ R := by
    rintro rfl
    rw [hR] at hc
    injection hc with hc
    injection hc with _ hc
    exact ht hc
  exact ⟨b, off, ha, ⟨cs', fr, (ho.block b hne).trans hc⟩, fun i hi => (ho.cell (p := ⟨b, off + i, none⟩) hne).trans (hr i hi)⟩
theorem Dg.nil (w : World) : Dg w (.slice none 0 0) [] := ⟨none, 0, rfl, Nat.le_refl _, by decide, fun h => absurd h (by simp)⟩
theorem Dg.len {w : World} {v : Value} {ds : List Nat} (h : Dg w v ds) : (ds.length : Int) ≤ 9223372036854775807 := by
  obtain ⟨ao, cap, hv, h1, h2, h3⟩ := h
  omega
theorem Dg.take {w : World} {v : Value} {ds : List Nat} (h : Dg w v ds) {n : Nat} (hn : n ≤ ds.length) : ∃ ao cap, v = .slice ao ds.length cap ∧ ds.length ≤ cap ∧ Dg w (.slice ao n cap) (ds.take n) := by
  obtain ⟨ao, cap, hv, h1, h2, h3⟩ := h
  refine ⟨ao, cap, hv, h1, ao, cap, by simp [Nat.min_eq_left hn], by simp; omega, h2, fun hp => ?_⟩
  have hp : 0 < n := by simp at hp; omega
  obtain ⟨b, off, ha, hc, hr⟩ := h3 (by omega)
  refine ⟨b, off, ha, hc, fun i hi => ?_⟩
  have hi : i < n := by simp at hi; omega
  rw [hr i (by omega)]
  simp [List.getD, List.getElem?_take, hi]

/-- A list of digits; where an element of one lies. -/
def clD (ds : List Nat) : Cl := ⟨1, false, fun w f => Dg w (f 0) ds⟩
def clP (d : Nat) : Cl := ⟨1, true, fun w f => ∃ b off, f 0 = .pointer (some ⟨b, off, none⟩) ∧ (∃ cs fr, w.heap[b]? = some (.cells cs 3 fr)) ∧ w.cell? ⟨b, off, none⟩ = some (ii (d : Int))⟩
theorem clD_ok {okT : List Nat} {B : Nat} (ht : ∀ t ∈ okT, t ≠ 3) (ds : List Nat) : (clD ds).Ok okT B := by
  refine ⟨fun w w' f hb h => Dg.below h hb (Nat.le_refl _), fun w w' R f cs t _ ho hm _ hb h => Dg.only ho (ht t hm) h hb, fun _ _ h _ => absurd h (by simp [clD]), ?_⟩
  rintro w f j ⟨ao, cap, hv, _⟩ hj
  have hj : j < 1 := hj
  obtain rfl : j = 0 := by omega
  rw [hv]; rfl
/-- A list of digits that lies in blocks from B on (or nowhere). -/
def clF (B : Nat) (ds : List Nat) : Cl := ⟨1, false, fun w f => Dg w (f 0) ds ∧ ∀ k, (f 0).ownBlock = some k → B ≤ k⟩
theorem clF_ok {okT : List Nat} {B0 : Nat} (ht : ∀ t ∈ okT, t ≠ 3) (B : Nat) (ds : List Nat) : (clF B ds).Ok okT B0 := by
  refine ⟨fun w w' f hb h => ⟨Dg.below h.1 hb (Nat.le_refl _), h.2⟩, fun w w' R f cs t _ ho hm _ hb h => ⟨Dg.only ho (ht t hm) h.1 hb, h.2⟩, fun _ _ h _ => absurd h (by simp [clF]), ?_⟩
  rintro w f j ⟨⟨ao, cap, hv, _⟩, _⟩ hj
  have hj : j < 1 := hj
  obtain rfl : j = 0 := by omega
  rw [hv]; rfl
theorem clP_ok {okT : List Nat} {B : Nat} (ht : ∀ t ∈ okT, t ≠ 3) (d : Nat) : (clP d).Ok okT B := by
  refine ⟨?_, ?_, ?_, ?_⟩
  · rintro w w' f hb ⟨b, off, h1, ⟨cs, fr, h2⟩, h3⟩
    have hlt := (Array.getElem?_eq_some_iff.1 h2).1
    exact ⟨b, off, h1, ⟨cs, fr, (hb.block b hlt).trans h2⟩, (hb.cell (p := ⟨b, off, none⟩) hlt).trans h3⟩
  · rintro w w' R f cs t _ ho hm _ hb ⟨b, off, h1, ⟨cs', fr, h2⟩, h3⟩
    have hne : b ≠ R := by
      rintro rfl
      rw [ho] at h2
      injection h2 with h2
      injection h2 with _ h2
      exact ht t hm h2
    exact ⟨b, off, h1, ⟨cs', fr, (hb.block b hne).trans h2⟩, (hb.cell (p := ⟨b, off, none⟩) hne).trans h3⟩
  · rintro w f _ ⟨b, off, h1, _⟩
    rw [h1]; rfl
  · rintro w f j ⟨b, off, h1, _⟩ hj
    have hj : j < 1 := hj
    obtain rfl : j = 0 := by omega
    rw [h1]; rfl

section
variable {csz : List Nat} {numc : List Bool} {okT : List Nat} {nt : Nat} {cl : List Cl} {w0 : World} {w : World} {v z : Value} {p1 p2 p3 : Pat} {res : RPat} {c d c1 c2 c3 c4 c5 c6 : Nat} {ds es : List Nat} {x y : Int}

/-- A pattern of one value; a result that is one value; a pattern of a list of digits. -/
def PV (csz : List Nat) (numc : List Bool) (okT : List Nat) (nt : Nat) (cl : List Cl) (w0 : World) (p : Pat) (x : Value) : Prop := ∀ w v, p.is (mkC csz numc okT nt cl w0) w v → v = x
def RV (csz : List Nat) (numc : List Bool) (okT : List Nat) (nt : Nat) (cl : List Cl) (w0 : World) (r : RPat) (x : Value) : Prop := ∀ w, r.is (mkC csz numc okT nt cl w0) w x
def PD (csz : List Nat) (numc : List Bool) (okT : List Nat) (nt : Nat) (cl : List Cl) (w0 : World) (p : Pat) (ds : List Nat) : Prop := ∀ w v, Below w0.heap.size w0 w → p.is (mkC csz numc okT nt cl w0) w v → Dg w v ds
def RD (csz : List Nat) (numc : List Bool) (okT : List Nat) (nt : Nat) (cl : List Cl) (w0 : World) (r : RPat) (ds : List Nat) : Prop := ∀ w v, Dg w v ds → r.is (mkC csz numc okT nt cl w0) w v
theorem pv (h : cl[c]? = some (clV v)) : PV csz numc okT nt cl w0 (op c) v := fun _ _ h1 => (op_is h).1 h1
theorem pvl : PV csz numc okT nt cl w0 (vp v) v := fun _ _ h1 => vp_is.1 h1
theorem rv (h : cl[c]? = some (clV v)) : RV csz numc okT nt cl w0 (.val (op c)) v := fun _ => (op_is h).2 rfl
theorem rvl : RV csz numc okT nt cl w0 (.val (vp v)) v := fun _ => vp_r _ _ _
theorem op_isD (h : cl[c]? = some (clD ds)) : (op c).is (mkC csz numc okT nt cl w0) w v ↔ Dg w v ds := by
  constructor
  · rintro ⟨f, hE, hv⟩
    simp only [mkC, h] at hE
    have : v = f 0 := by simpa [List.range_succ] using hv
    rw [this]; exact hE
  · intro hv
    refine ⟨fun _ => v, ?_, rfl⟩
    simp only [mkC, h]
    exact hv
theorem pd (h : cl[c]? = some (clD ds)) : PD csz numc okT nt cl w0 (op c) ds := fun _ _ _ h1 => (op_isD h).1 h1
def PF (csz : List Nat) (numc : List Bool) (okT : List Nat) (nt : Nat) (cl : List Cl) (w0 : World) (p : Pat) (B : Nat) (ds : List Nat) : Prop := ∀ w v, Below w0.heap.size w0 w → p.is (mkC csz numc okT nt cl w0) w v → Dg w v ds ∧ ∀ k, v.ownBlock = some k → B ≤ k
def RF (csz : List Nat) (numc : List Bool) (okT : List Nat) (nt : Nat) (cl : List Cl) (w0 : World) (r : RPat) (B : Nat) (ds : List Nat) : Prop := ∀ w v, Dg w v ds → (∀ k, v.ownBlock = some k → B ≤ k) → r.is (mkC csz numc okT nt cl w0) w v
theorem op_isF {B : Nat} (h : cl[c]? = some (clF B ds)) : (op c).is (mkC csz numc okT nt cl w0) w v ↔ Dg w v ds ∧ ∀ k, v.ownBlock = some k → B ≤ k := by
  constructor
  · rintro ⟨f, hE, hv⟩
    simp only [mkC, h] at hE
    have : v = f 0 := by simpa [List.range_succ] using hv
    rw [this]; exact hE
  · intro hv
    refine ⟨fun _ => v, ?_, rfl⟩
    simp only [mkC, h]
    exact hv
theorem pf {B : Nat} (h : cl[c]? = some (clF B ds)) : PF csz numc okT nt cl w0 (op c) B ds := fun _ _ _ h1 => (op_isF h).1 h1
theorem rf {B : Nat} (h : cl[c]? = some (clF B ds)) : RF csz numc okT nt cl w0 (.val (op c)) B ds := fun _ _ h1 h2 => (op_isF h).2 ⟨h1, h2⟩
theorem PF.pd {B : Nat} {p : Pat} (h : PF csz numc okT nt cl w0 p B ds) : PD csz numc okT nt cl w0 p ds := fun w v hb hp => (h w v hb hp).1
theorem rd (h : cl[c]? = some (clD ds)) : RD csz numc okT nt cl w0 (.val (op c)) ds := fun _ _ h1 => (op_isD h).2 h1

/-- Which operation has a head. -/
theorem hd_bin {o : Oper} {op : BinOp} {t : Nat} {xs : List Operand} (h : opHd o = some (.bin op t, xs)) : ∃ x y u, o.op = .binOp op t x y u ∧ xs = [x, y] := by
  unfold opHd at h
  split at h <;> first
    | (rename_i h0; simp only [Option.some.injEq, Prod.mk.injEq, Hd.bin.injEq, reduceCtorEq, false_and] at h; try (obtain ⟨⟨rfl, rfl⟩, rfl⟩ := h; exact ⟨_, _, _, h0, rfl⟩))
    | (split at h <;> simp at h)
    | simp at h
theorem hd_ix {o : Oper} {t : Nat} {xs : List Operand} (h : opHd o = some (.ix t, xs)) : ∃ x y, o.op = .indexAddr t x y ∧ xs = [x, y] := by
  unfold opHd at h
  split at h <;> first
    | (rename_i h0; simp only [Option.some.injEq, Prod.mk.injEq, Hd.ix.injEq, reduceCtorEq, false_and] at h; try (obtain ⟨rfl, rfl⟩ := h; exact ⟨_, _, h0, rfl⟩))
    | (split at h <;> simp at h)
    | simp at h
theorem hd_ld {o : Oper} {t : Nat} {xs : List Operand} (h : opHd o = some (.ld t, xs)) : ∃ x, o.op = .load t x ∧ xs = [x] := by
  unfold opHd at h
  split at h <;> first
    | (rename_i h0; simp only [Option.some.injEq, Prod.mk.injEq, Hd.ld.injEq, reduceCtorEq, false_and] at h; try (obtain ⟨rfl, rfl⟩ := h; exact ⟨_, h0, rfl⟩))
    | (split at h <;> simp at h)
    | simp at h
theorem hd_cv {o : Oper} {s d : Nat} {xs : List Operand} (h : opHd o = some (.cv s d, xs)) : ∃ x, o.op = .convert s d x ∧ xs = [x] := by
  unfold opHd at h
  split at h <;> first
    | (rename_i h0; simp only [Option.some.injEq, Prod.mk.injEq, Hd.cv.injEq, reduceCtorEq, false_and] at h; try (obtain ⟨⟨rfl, rfl⟩, rfl⟩ := h; exact ⟨_, h0, rfl⟩))
    | (split at h <;> simp at h)
    | simp at h
theorem hd_sl {o : Oper} {t : Nat} {b1 b2 b3 : Bool} {xs : List Operand} (h : opHd o = some (.sl t b1 b2 b3, xs)) : ∃ x lo hi mx, o.op = .slice t x lo hi mx ∧ lo.isSome = b1 ∧ hi.isSome = b2 ∧ mx.isSome = b3 ∧ xs = x :: (lo.toList ++ hi.toList ++ mx.toList) := by
  unfold opHd at h
  split at h <;> first
    | (rename_i h0; simp only [Option.some.injEq, Prod.mk.injEq, Hd.sl.injEq, reduceCtorEq, false_and] at h; try (obtain ⟨⟨rfl, rfl, rfl, rfl⟩, rfl⟩ := h; exact ⟨_, _, _, _, h0, rfl, rfl, rfl, rfl⟩))
    | (split at h <;> simp at h)
    | simp at h
theorem hd_blt {o : Oper} {b : Builtin} {ats : List Nat} {t : Nat} {xs : List Operand} (h : opHd o = some (.blt b ats t, xs)) : ∃ c, o.op = .call c ∧ c.callee = .builtin b ∧ c.argTypes = ats.toArray ∧ o.type = t ∧ xs = c.args.toList := by
  unfold opHd at h
  split at h <;> first
    | (rename_i c h0
       split at h
       · rename_i b' h1
         simp only [Option.some.injEq, Prod.mk.injEq, Hd.blt.injEq] at h
         obtain ⟨⟨rfl, rfl, rfl⟩, rfl⟩ := h
         exact ⟨_, h0, h1, by simp, rfl, rfl⟩
       · simp at h)
    | (split at h <;> simp at h)
    | simp at h

/-- An operation on two integers. -/
theorem e_bin {o : BinOp} {t : Nat} {k : IntKind} (h1 : PV csz numc okT nt cl w0 p1 (.int k x)) (h2 : PV csz numc okT nt cl w0 p2 (.int k y)) (h3 : RV csz numc okT nt cl w0 res z)
    (hr : ∀ w, (Go.binOp o t (.int k x) (.int k y)).run Tryz.prog w = .ok z w) : V csz numc okT nt cl w0 (.bin o t) [p1, p2] res := by
  intro w ρ oo xs ho hb hvs
  obtain ⟨a, b, u, hop, rfl⟩ := hd_bin ho
  obtain ⟨v1, _, e1, h4, v2, _, e2, h5, e3⟩ := hvs
  obtain rfl := h1 _ _ h4
  obtain rfl := h2 _ _ h5
  subst e2
  simp only [List.map_cons, List.map_nil, List.cons.injEq] at e1
  obtain ⟨ea, eb, _⟩ := e1
  refine ⟨z, w, ?_, h3 w, Below.refl _ _⟩
  have hg : (eqGuard o t a b (.int k x) (.int k y)).run Tryz.prog w = .ok () w := by
    unfold eqGuard
    cases o <;> rfl
  show (execOp ρ oo).run Tryz.prog w = _
  simp only [execOp, hop, ea, eb, Sem.run_bind, hg, hr w, Result.andThen_ok]
  rfl
theorem size_int (w : World) : (sizeOf 3).run Tryz.prog w = .ok 1 w := ev_run (by kernel_rfl) w
theorem agg_int (w : World) : (isAgg 3).run Tryz.prog w = .ok false w := ev_run (by kernel_rfl) w
/-- The length of a list. -/
theorem e_len {t : Nat} (ht : Tryz.prog.underlying t = some (.slice (Tryz.prog.elem t))) (h1 : PD csz numc okT nt cl w0 p1 ds) (h3 : RV csz numc okT nt cl w0 res (ii (ds.length : Int))) : V csz numc okT nt cl w0 (.blt .len [t] 3) [p1] res := by
  intro w ρ oo xs ho hb hvs
  obtain ⟨c, hop, hc, hat, hty, rfl⟩ := hd_blt ho
  obtain ⟨v1, _, e1, h4, e2⟩ := hvs
  subst e2
  obtain ⟨ao, cap, rfl, _⟩ := h1 _ _ hb h4
  refine ⟨_, w, ?_, h3 w, Below.refl _ _⟩
  have he : c.args.map ρ = #[Value.slice ao ds.length cap] := by
    apply Array.ext'
    simpa using e1
  show (execOp ρ oo).run Tryz.prog w = _
  simp only [execOp, hop, resolve, hc, he, Sem.run_bind, Sem.run_pure, Result.andThen_ok, invoke, builtin, hat, hty]
  simp [Sem.run_bind, run_len_slice _ _ _ _ _ _ ht, Result.andThen, goInt]
/-- Where an element lies; what stands there. -/
theorem e_ix {t : Nat} {n : Nat} (ht : Tryz.prog.underlying t = some (.slice (Tryz.prog.elem t))) (he : Tryz.prog.elem t = 3) (h1 : PD csz numc okT nt cl w0 p1 ds) (h2 : PV csz numc okT nt cl w0 p2 (ii (n : Int))) (hn : n < ds.length) (h3 : cl[c]? = some (clP (ds.getD n 0))) : V csz numc okT nt cl w0 (.ix t) [p1, p2] (.val (op c)) := by
  intro w ρ oo xs ho hb hvs
  obtain ⟨a, b, hop, rfl⟩ := hd_ix ho
  obtain ⟨v1, _, e1, h4, v2, _, e2, h5, e3⟩ := hvs
  obtain rfl := h2 _ _ h5
  subst e2
  simp only [List.map_cons, List.map_nil, List.cons.injEq] at e1
  obtain ⟨ea, eb, _⟩ := e1
  obtain ⟨ao, cap, rfl, h6, h7, h8⟩ := h1 _ _ hb h4
  obtain ⟨k, off, rfl, hcs, hr⟩ := h8 (by omega)
  refine ⟨.pointer (some ⟨k, off + n, none⟩), w, ?_, ⟨fun _ => .pointer (some ⟨k, off + n, none⟩), ?_, rfl⟩, Below.refl _ _⟩
  · show (execOp ρ oo).run Tryz.prog w = _
    have hs : (sizeOf (Tryz.prog.elem t)).run Tryz.prog w = .ok 1 w := by rw [he]; exact size_int w
    simp only [execOp, hop, ea, eb, Sem.run_bind, run_indexAt_slice _ _ _ _ _ _ _ ht]
    rw [if_pos (by omega)]
    simp [hs, Result.andThen, Addr.add]
  · simp only [mkC, h3]
    exact ⟨k, off + n, rfl, hcs, hr n hn⟩
theorem e_ld {d : Nat} (h1 : cl[c]? = some (clP d)) (h3 : RV csz numc okT nt cl w0 res (ii (d : Int))) : V csz numc okT nt cl w0 (.ld 3) [op c] res := by
  intro w ρ oo xs ho hb hvs
  obtain ⟨a, hop, rfl⟩ := hd_ld ho
  obtain ⟨v1, _, e1, ⟨f, hE, hv⟩, e2⟩ := hvs
  subst e2
  simp only [mkC, h1] at hE
  have hv : v1 = f 0 := by simpa [List.range_succ] using hv
  simp only [List.map_cons, List.map_nil, List.cons.injEq] at e1
  obtain ⟨ea, _⟩ := e1
  obtain ⟨k, off, hf, _, hc⟩ := hE
  refine ⟨_, w, ?_, h3 w, Below.refl _ _⟩
  show (execOp ρ oo).run Tryz.prog w = _
  rw [hf] at hv
  simp only [execOp, hop, ea, hv, Instr.loadAt, Instr.sureAddr, Sem.run_bind, Sem.run_pure, Result.andThen_ok, loadVar, agg_int]
  simp [hc]
/-- The first n elements. -/
theorem e_take {t : Nat} {n : Nat} (ht : Tryz.prog.underlying t = some (.slice (Tryz.prog.elem t))) (he : Tryz.prog.elem t = 3) (h1 : PD csz numc okT nt cl w0 p1 ds) (h2 : PV csz numc okT nt cl w0 p2 (ii (n : Int))) (hn : n ≤ ds.length) (h3 : RD csz numc okT nt cl w0 res (ds.take n)) : V csz numc okT nt cl w0 (.sl t false true false) [p1, p2] res := by
  intro w ρ oo xs ho hb hvs
  obtain ⟨a, lo, hi, mx, hop, q1, q2, q3, rfl⟩ := hd_sl ho
  obtain rfl : lo = none := by cases lo <;> simp_all
  obtain rfl : mx = none := by cases mx <;> simp_all
  obtain ⟨b, rfl⟩ := Option.isSome_iff_exists.1 q2
  obtain ⟨v1, _, e1, h4, v2, _, e2, h5, e3⟩ := hvs
  obtain rfl := h2 _ _ h5
  subst e2
  simp only [Option.toList, List.nil_append, List.append_nil, List.map_cons, List.map_nil, List.cons.injEq] at e1
  obtain ⟨ea, eb, _⟩ := e1
  obtain ⟨ao, cap, rfl, h6, h7⟩ := (h1 _ _ hb h4).take hn
  refine ⟨_, w, ?_, h3 w _ h7, Below.refl _ _⟩
  show (execOp ρ oo).run Tryz.prog w = _
  have hs : (sizeOf (Tryz.prog.elem t)).run Tryz.prog w = .ok 1 w := by rw [he]; exact size_int w
  have hsl := run_slice_h (P := Tryz.prog) w t ao ds.length cap ht .i64 (n : Int) (by omega) (by omega)
  simp only [execOp, hop, ea, eb, Sem.run_bind, Option.map_none, Option.map_some, run_sliceAt_slice _ _ _ _ _ _ ht, hsl, hs, Result.andThen_ok, sliced]
  simp only [Nat.zero_mul, Int.toNat_natCast, Nat.sub_zero]
  have hz : ao.map (fun x => x.add 0) = ao := by cases ao <;> simp [Addr.add]
  rw [hz]
  simp
/-- The same, and where it lies. -/
theorem e_takeF {t : Nat} {n B : Nat} (ht : Tryz.prog.underlying t = some (.slice (Tryz.prog.elem t))) (he : Tryz.prog.elem t = 3) (h1 : PF csz numc okT nt cl w0 p1 B ds) (h2 : PV csz numc okT nt cl w0 p2 (ii (n : Int))) (hn : n ≤ ds.length) (h3 : RF csz numc okT nt cl w0 res B (ds.take n)) : V csz numc okT nt cl w0 (.sl t false true false) [p1, p2] res := by
  intro w ρ oo xs ho hb hvs
  obtain ⟨a, lo, hi, mx, hop, q1, q2, q3, rfl⟩ := hd_sl ho
  obtain rfl : lo = none := by cases lo <;> simp_all
  obtain rfl : mx = none := by cases mx <;> simp_all
  obtain ⟨b, rfl⟩ := Option.isSome_iff_exists.1 q2
  obtain ⟨v1, _, e1, h4, v2, _, e2, h5, e3⟩ := hvs
  obtain rfl := h2 _ _ h5
  subst e2
  simp only [Option.toList, List.nil_append, List.append_nil, List.map_cons, List.map_nil, List.cons.injEq] at e1
  obtain ⟨ea, eb, _⟩ := e1
  obtain ⟨g1, g2⟩ := h1 _ _ hb h4
  obtain ⟨ao, cap, rfl, h6, h7⟩ := g1.take hn
  refine ⟨_, w, ?_, h3 w _ h7 (fun k hk => g2 k (by cases ao <;> simpa [Value.ownBlock] using hk)), Below.refl _ _⟩
  show (execOp ρ oo).run Tryz.prog w = _
  have hs : (sizeOf (Tryz.prog.elem t)).run Tryz.prog w = .ok 1 w := by rw [he]; exact size_int w
  have hsl := run_slice_h (P := Tryz.prog) w t ao ds.length cap ht .i64 (n : Int) (by omega) (by omega)
  simp only [execOp, hop, ea, eb, Sem.run_bind, Option.map_none, Option.map_some, run_sliceAt_slice _ _ _ _ _ _ ht, hsl, hs, Result.andThen_ok, sliced]
  simp only [Nat.zero_mul, Int.toNat_natCast, Nat.sub_zero]
  have hz : ao.map (fun x => x.add 0) = ao := by cases ao <;> simp [Addr.add]
  rw [hz]
  simp
/-- The greater one. -/
theorem e_max {ats : List Nat} {t : Nat} (h1 : PV csz numc okT nt cl w0 p1 (ii x)) (h2 : PV csz numc okT nt cl w0 p2 (ii y)) (h3 : RV csz numc okT nt cl w0 res (ii (if y > x then y else x))) : V csz numc okT nt cl w0 (.blt .max ats t) [p1, p2] res := by
  intro w ρ oo xs ho hb hvs
  obtain ⟨c, hop, hc, hat, hty, rfl⟩ := hd_blt ho
  obtain ⟨v1, _, e1, h4, v2, _, e2, h5, e3⟩ := hvs
  obtain rfl := h1 _ _ h4
  obtain rfl := h2 _ _ h5
  subst e2
  subst e3
  refine ⟨_, w, ?_, h3 w, Below.refl _ _⟩
  have he : c.args.map ρ = #[ii x, ii y] := by
    apply Array.ext'
    simpa using e1
  show (execOp ρ oo).run Tryz.prog w = _
  simp only [execOp, hop, resolve, hc, he, Sem.run_bind, Sem.run_pure, Result.andThen_ok, invoke, builtin, run_max_int2]
theorem e_add {t : Nat} {u : Int} (hz : x + y = u) (h1 : PV csz numc okT nt cl w0 p1 (ii x)) (h2 : PV csz numc okT nt cl w0 p2 (ii y)) (h3 : RV csz numc okT nt cl w0 res (ii u)) (hr : -9223372036854775808 ≤ u ∧ u ≤ 9223372036854775807) : V csz numc okT nt cl w0 (.bin .add t) [p1, p2] res :=
  e_bin h1 h2 h3 (fun w => by
    show Result.ok (Value.int .i64 (IntKind.i64.wrap (x + y))) w = _
    rw [hz, show IntKind.i64.wrap u = u by rw [IntKind.wrap_i64]; omega])
theorem e_sub {t : Nat} {u : Int} (hz : x - y = u) (h1 : PV csz numc okT nt cl w0 p1 (ii x)) (h2 : PV csz numc okT nt cl w0 p2 (ii y)) (h3 : RV csz numc okT nt cl w0 res (ii u)) (hr : -9223372036854775808 ≤ u ∧ u ≤ 9223372036854775807) : V csz numc okT nt cl w0 (.bin .sub t) [p1, p2] res :=
  e_bin h1 h2 h3 (fun w => by
    show Result.ok (Value.int .i64 (IntKind.i64.wrap (x - y))) w = _
    rw [hz, show IntKind.i64.wrap u = u by rw [IntKind.wrap_i64]; omega])
theorem e_mul {t : Nat} {u : Int} (hz : x * y = u) (h1 : PV csz numc okT nt cl w0 p1 (ii x)) (h2 : PV csz numc okT nt cl w0 p2 (ii y)) (h3 : RV csz numc okT nt cl w0 res (ii u)) (hr : -9223372036854775808 ≤ u ∧ u ≤ 9223372036854775807) : V csz numc okT nt cl w0 (.bin .mul t) [p1, p2] res :=
  e_bin h1 h2 h3 (fun w => by
    show Result.ok (Value.int .i64 (IntKind.i64.wrap (x * y))) w = _
    rw [hz, show IntKind.i64.wrap u = u by rw [IntKind.wrap_i64]; omega])
theorem e_rem {t : Nat} {k : IntKind} {m n : Nat} (h1 : PV csz numc okT nt cl w0 p1 (.int k (m : Int))) (h2 : PV csz numc okT nt cl w0 p2 (.int k (n : Int))) (h3 : RV csz numc okT nt cl w0 res (.int k ((m % n : Nat) : Int))) (hn : 0 < n) : V csz numc okT nt cl w0 (.bin .rem t) [p1, p2] res :=
  e_bin h1 h2 h3 (fun w => by
    rw [binOp_rem, Op.intDiv, if_neg (by omega)]
    show Result.ok (Value.int k ((m : Int).tmod (n : Int))) w = _
    rw [show (m : Int).tmod (n : Int) = ((m % n : Nat) : Int) by rw [Int.tmod_eq_emod_of_nonneg (by omega)]; rfl])
theorem e_quo {t : Nat} {k : IntKind} {m n : Nat} (h1 : PV csz numc okT nt cl w0 p1 (.int k (m : Int))) (h2 : PV csz numc okT nt cl w0 p2 (.int k (n : Int))) (h3 : RV csz numc okT nt cl w0 res (.int k ((m / n : Nat) : Int))) (hn : 0 < n) (hw : k.wrap ((m / n : Nat) : Int) = ((m / n : Nat) : Int)) : V csz numc okT nt cl w0 (.bin .quo t) [p1, p2] res :=
  e_bin h1 h2 h3 (fun w => by
    rw [binOp_quo, Op.intDiv, if_neg (by omega)]
    show Result.ok (Value.int k (k.wrap ((m : Int).tdiv (n : Int)))) w = _
    rw [show (m : Int).tdiv (n : Int) = ((m / n : Nat) : Int) by rw [Int.tdiv_eq_ediv_of_nonneg (by omega)]; rfl, hw])
/-- An integer of another type. -/
theorem e_cv {s d : Nat} {k k' : IntKind} (hs : (Tryz.prog.underlying s).isSome = true) (hd : Tryz.prog.underlying d = some (.int (Tryz.prog.intKind d))) (hk : Tryz.prog.intKind d = k') (h1 : PV csz numc okT nt cl w0 p1 (.int k x)) (h3 : RV csz numc okT nt cl w0 res (.int k' x)) (hw : k'.wrap x = x) : V csz numc okT nt cl w0 (.cv s d) [p1] res := by
  intro w ρ oo xs ho hb hvs
  obtain ⟨a, hop, rfl⟩ := hd_cv ho
  obtain ⟨v1, _, e1, h4, e2⟩ := hvs
  obtain rfl := h1 _ _ h4
  subst e2
  simp only [List.map_cons, List.map_nil, List.cons.injEq] at e1
  obtain ⟨ea, _⟩ := e1
  refine ⟨_, w, ?_, h3 w, Below.refl _ _⟩
  show (execOp ρ oo).run Tryz.prog w = _
  simp only [execOp, hop, ea, Sem.run_bind, run_convert_int _ _ _ _ _ hs hd, hk, hw, Result.andThen_ok]
  rfl
theorem e_lss {t : Nat} {k : IntKind} {b : Bool} (h1 : PV csz numc okT nt cl w0 p1 (.int k x)) (h2 : PV csz numc okT nt cl w0 p2 (.int k y)) (hb : decide (x < y) = b) : V csz numc okT nt cl w0 (.bin .lss t) [p1, p2] (.val (vp (.bool b))) :=
  e_bin h1 h2 rvl (fun w => by subst hb; cases k <;> rfl)
theorem e_leq {t : Nat} {k : IntKind} {b : Bool} (h1 : PV csz numc okT nt cl w0 p1 (.int k x)) (h2 : PV csz numc okT nt cl w0 p2 (.int k y)) (hb : decide (x ≤ y) = b) : V csz numc okT nt cl w0 (.bin .leq t) [p1, p2] (.val (vp (.bool b))) :=
  e_bin h1 h2 rvl (fun w => by subst hb; cases k <;> rfl)
theorem e_gtr {t : Nat} {k : IntKind} {b : Bool} (h1 : PV csz numc okT nt cl w0 p1 (.int k x)) (h2 : PV csz numc okT nt cl w0 p2 (.int k y)) (hb : decide (x > y) = b) : V csz numc okT nt cl w0 (.bin .gtr t) [p1, p2] (.val (vp (.bool b))) :=
  e_bin h1 h2 rvl (fun w => by subst hb; cases k <;> rfl)
theorem e_geq {t : Nat} {k : IntKind} {b : Bool} (h1 : PV csz numc okT nt cl w0 p1 (.int k x)) (h2 : PV csz numc okT nt cl w0 p2 (.int k y)) (hb : decide (x ≥ y) = b) : V csz numc okT nt cl w0 (.bin .geq t) [p1, p2] (.val (vp (.bool b))) :=
  e_bin h1 h2 rvl (fun w => by subst hb; cases k <;> rfl)
theorem e_eql {t : Nat} {k : IntKind} {b : Bool} (h1 : PV csz numc okT nt cl w0 p1 (.int k x)) (h2 : PV csz numc okT nt cl w0 p2 (.int k y)) (hb : decide (x = y) = b) : V csz numc okT nt cl w0 (.bin .eql t) [p1, p2] (.val (vp (.bool b))) :=
  e_bin h1 h2 rvl (fun w => by subst hb; cases k <;> rfl)
end
end Sym
end Go.Proofs.YtccabfblgjcboaaGreatDoor

/- A call in pieces: from the arguments to the first place; from the last place to what is returned. -/
namespace Go.Proofs.YtccabfblgjcboaaGreatDoor
open Go Go.RowKit Go.Proofs Lim
namespace Sym

def argItems : Nat → List Pat → List Item
  | _, [] => []
  | j, p :: ps => .val j p :: argItems (j + 1) ps

section
variable {C : Ctx} {T : List Ent} {a : Act} {w : World}
theorem argItems_are : ∀ {ps : List Pat} {vs : List Value} {j : Nat} {bs : List Nat}, PatsAre C w ps vs → (∀ i v, vs[i]? = some v → a.tmps[j + i]? = some v) → ItemsAre C a w (argItems j ps) bs
  | [], _, _, _, _, _ => trivial
  | p :: ps, _, j, bs, ⟨v, ws, h1, h2, h3⟩, hs => by
    subst h1
    exact ⟨⟨v, by simpa using hs 0 v rfl, h2⟩, argItems_are h3 (fun i x hx => by
      have := hs (i + 1) x (by simpa using hx)
      rw [show j + 1 + i = j + (i + 1) by omega]
      exact this)⟩
/-- **A call, from the first place on.** -/
theorem calls_at {f : FuncId} {fn : Func} {c : Code} (hf : C.P.funcs[f]? = some fn) (hb : fn.body = some c) (hnt : fn.ntmps = C.nt) {args : List Pat} (hlen : args.length ≤ C.nt) {vs : List Value} (hvs : PatsAre C C.w0 args vs) {Q : Ending → World → Prop}
    (h : ∀ a, At C (argItems 0 args) a C.w0 → c.wp C.P (bodyPost C.P fn Q) a C.w0) : Calls C.P f vs.toArray C.w0 Q := by
  refine calls_of_wp hf hb (h _ ⟨Below.refl _ _, rfl, ?_, ?_⟩)
  · have := hvs.length
    simp only [Array.size_append, List.size_toArray, Array.size_replicate]
    omega
  · refine argItems_are hvs (fun i v hi => ?_)
    have hil : i < vs.length := by
      rcases Nat.lt_or_ge i vs.length with h | h
      · exact h
      · simp [List.getElem?_eq_none h] at hi
    show (vs.toArray ++ Array.replicate (fn.ntmps - vs.toArray.size) undef)[0 + i]? = some v
    rw [Nat.zero_add, Array.getElem?_append_left (by simpa using hil)]
    simpa using hi
/-- **What is returned**, of one slot. -/
theorem at_ret {fn : Func} {t : Nat} {p : Pat} {l : List Item} (hr : fn.results = #[.tmp t]) (hA : At C (.val t p :: l) a w) {Q : Ending → World → Prop} (h : ∀ v, p.is C w v → Q (.returned v) w) : bodyPost C.P fn Q .ret a w := by
  obtain ⟨⟨v, h1, h2⟩, _⟩ := hA.items
  refine ⟨hA.defers, v, ?_, h v h2⟩
  rw [results_eq, hr]
  have : a.tmps.getD t undef = v := by rw [Array.getD_eq_getD_getElem?, h1]; rfl
  simp [resF, this]
/-- Of two slots. -/
theorem at_ret2 {fn : Func} {t s : Nat} {p q : Pat} {l : List Item} (hr : fn.results = #[.tmp t, .tmp s]) (hA : At C (.val t p :: .val s q :: l) a w) {Q : Ending → World → Prop} (h : ∀ v u, p.is C w v → q.is C w u → Q (.returned (.tuple #[v, u])) w) : bodyPost C.P fn Q .ret a w := by
  obtain ⟨⟨v, h1, h2⟩, ⟨u, h3, h4⟩, _⟩ := hA.items
  refine ⟨hA.defers, .tuple #[v, u], ?_, h v u h2 h4⟩
  rw [results_eq, hr]
  have e1 : a.tmps.getD t undef = v := by rw [Array.getD_eq_getD_getElem?, h1]; rfl
  have e2 : a.tmps.getD s undef = u := by rw [Array.getD_eq_getD_getElem?, h3]; rfl
  simp [resF, e1, e2]
/-- **A loop in a block**: each round goes on with less, leaves the block, or returns. -/
theorem while_is {P : Program} {id : Nat} {c : Code} {Q : Exit → Act → World → Prop} {Θ : Type} (I : Θ → Act → World → Prop) (μ : Θ → Nat)
    (round : ∀ θ a w, I θ a w → c.wp P (Exit.then (fun a' w' => ∃ θ', I θ' a' w' ∧ μ θ' < μ θ) (Exit.inBlock id Q)) a w) (θ : Θ) (h0 : I θ a w) : (Code.block id (.loop c)).wp P Q a w :=
  wp_block (loop_is I μ round θ h0)
/-- Which class a class was before. -/
def rOf : List (Nat × Nat) → Nat → Nat
  | [], _ => 1000000
  | (c, d) :: l, x => if x = c then d else rOf l x
theorem rOf_some {cl cl' : List Cl} (hz : cl[1000000]? = none) : ∀ {l : List (Nat × Nat)} {c : Nat} {x : Cl}, (∀ p ∈ l, cl[p.2]? = cl'[p.1]?) → cl[rOf l c]? = some x → cl'[c]? = some x
  | [], c, x, _, hx => by
    simp only [rOf, hz] at hx
    cases hx
  | (c0, d) :: l, c, x, h, hx => by
    unfold rOf at hx
    split at hx
    · rename_i hc
      subst hc
      have := h (c, d) (by simp)
      rw [← this]
      exact hx
    · exact rOf_some hz (fun p hp => h p (List.mem_cons_of_mem _ hp)) hx
/-- **The same place, read with other classes**: pairs (new class, old class). -/
theorem at_re {csz csz' : List Nat} {numc numc' : List Bool} {okT okT' : List Nat} {nt : Nat} {cl cl' : List Cl} {w0 : World} {is is' : List Item}
    (hA : At (mkC csz numc okT nt cl w0) is' a w) (l : List (Nat × Nat)) (h : ∀ p ∈ l, cl[p.2]? = cl'[p.1]?) (hz : cl[1000000]? = none) (hl : is' = is.map (Item.re (rOf l))) : At (mkC csz' numc' okT' nt cl' w0) is a w := by
  refine At.re (C := mkC csz numc okT nt cl w0) (C' := mkC csz' numc' okT' nt cl' w0) (r := rOf l) (fun c f hE => ?_) rfl rfl hl hA
  simp only [mkC] at hE ⊢
  split at hE
  · rename_i x hx
    rw [rOf_some hz h hx]
    exact hE
  · exact hE.elim
theorem prs_nil {P : Nat × Nat → Prop} : ∀ t ∈ ([] : List (Nat × Nat)), P t := fun t h => by simp at h
theorem prs_cons {P : Nat × Nat → Prop} {a : Nat × Nat} {l : List (Nat × Nat)} (h : P a) (k : ∀ t ∈ l, P t) : ∀ t ∈ a :: l, P t := fun t ht => by
  rcases List.mem_cons.1 ht with rfl | ht
  · exact h
  · exact k t ht
end
/-! Operations one after the other, by the order of the list: for regions of which one operation is not the engine's. -/
section
variable {C : Ctx} {T : List Ent} {a : Act} {w : World} {Q : Exit → Act → World → Prop} {ops : Array Oper}
def opsE (S : Stat) (T : List Ent) : List Oper → St → Option St
  | [], st => some st
  | o :: l, st => match o.guard with
    | none => match stepOp S T (fun k => find k st.m) st.nb o with
      | some ws => opsE S T l ⟨st.nb + 1, ws ++ st.m⟩
      | none => none
    | some _ => none
theorem step_sat (hC : C.Ok) (hT : ∀ t ∈ T, t.Valid C) {st : St} {ws : Ws} {o : Oper} (h : stepOp C.toStat T (fun k => find k st.m) st.nb o = some ws) (hs : Sat C st a w) {K : Act → World → Prop} (hK : ∀ a' w', Sat C ⟨st.nb + 1, ws ++ st.m⟩ a' w' → K a' w') : o.wp C.P a w K Q := by
  obtain ⟨e, hk, hg, h1, h2⟩ := hs
  refine stepOp_is hC hT hk hg ?_ ?_ h ?_
  · cases he : e.ρ st.nb with
    | none => rfl
    | some k => have := h1 _ _ he; omega
  · intro x hx
    cases he : e.ν x with
    | none => rfl
    | some f => have := h2 _ _ he; omega
  · intro e' a' w' hx hρ hν hg' hnew hfr
    refine hK a' w' ⟨e', ?_, hg', ?_, ?_⟩
    · intro k v hkv
      have hkv : find k (ws ++ st.m) = some v := hkv
      rw [find_append] at hkv
      cases hf : find k ws with
      | some x =>
        rw [hf] at hkv
        injection hkv with hkv; subst hkv
        exact hnew k _ (find_mem hf)
      | none =>
        rw [hf] at hkv
        exact hfr k v (hk k v hkv) hf
    · intro b k hb
      show b < st.nb + 1
      rcases hρ b k hb with h | h
      · have := h1 b k h; omega
      · omega
    · intro s f hs'
      show s / 8 < st.nb + 1
      rcases hν s f hs' with h | h
      · have := h2 s f h; omega
      · omega
theorem opsE_is (hC : C.Ok) (hT : ∀ t ∈ T, t.Valid C) : ∀ {l rest : List Oper} {st st' : St} {a : Act} {w : World}, opsE C.toStat T l st = some st' → Sat C st a w → (∀ a' w', Sat C st' a' w' → wpList C.P ops Q rest a' w') → wpList C.P ops Q (l ++ rest) a w
  | [], rest, st, st', a, w, h, hs, hQ => by
    simp [opsE] at h; subst h
    exact hQ a w hs
  | o :: l, rest, st, st', a, w, h, hs, hQ => by
    unfold opsE at h
    split at h
    · rename_i hg
      split at h
      · rename_i ws hw
        refine wpList_plain hg (fun K hK => step_sat hC hT hw hs (fun a' w' hs' => hK a' w' (opsE_is hC hT h hs' hQ)))
      · cases h
    · cases h
def opsB (S : Stat) (T : List Ent) (l : List Oper) (pre post : List Item) : Bool :=
  match entry pre 0 with
  | some ws => match opsE S T l ⟨pre.length, ws⟩ with
    | some st' => meets (fun k => find k st'.m) post []
    | none => false
  | none => false
/-- **Some operations of a region.** -/
theorem ops_is (hC : C.Ok) (hT : ∀ t ∈ T, t.Valid C) {l rest : List Oper} {pre post : List Item} (h : opsB C.toStat T l pre post = true) (hA : At C pre a w) (hQ : ∀ a' w', At C post a' w' → wpList C.P ops Q rest a' w') : wpList C.P ops Q (l ++ rest) a w := by
  unfold opsB at h
  split at h
  · rename_i ws hws
    split at h
    · rename_i st' he
      exact opsE_is hC hT he (hA.sat hws) (fun a' w' hs => hQ a' w' (hs.meet h))
    · cases h
  · cases h
theorem ops_end (hC : C.Ok) (hT : ∀ t ∈ T, t.Valid C) {l : List Oper} {pre post : List Item} (h : opsB C.toStat T l pre post = true) (hA : At C pre a w) (hQ : ∀ a' w', At C post a' w' → Q .normal a' w') : wpList C.P ops Q l a w := by
  have := ops_is (rest := []) hC hT (ops := ops) (Q := Q) h hA hQ
  rwa [List.append_nil] at this
def opsOf : Code → List Oper
  | .region _ ops _ => ops.toList
  | _ => []
end

/-! Values that are known by name, lists too: a class whose first cell may be the header of a slice. -/
def clW (v : Value) : Cl := ⟨1, false, fun _ f => f 0 = v⟩
theorem clW_ok {okT : List Nat} {B : Nat} {v : Value} (hv : v.oneCell' = true) : (clW v).Ok okT B := by
  refine ⟨fun w w' f hb h => h, fun w w' R f cs t _ ho hm hz hb h => h, fun _ _ h _ => absurd h (by simp [clW]), ?_⟩
  intro w f j h hj
  have hj : j < 1 := hj
  obtain rfl : j = 0 := by omega
  rw [show f 0 = v from h]
  exact hv
section
variable {csz : List Nat} {numc : List Bool} {okT : List Nat} {nt : Nat} {cl : List Cl} {w0 : World} {w : World} {v : Value} {c : Nat} {a : Act}
theorem op_isW {x : Value} (h : cl[c]? = some (clW x)) : (op c).is (mkC csz numc okT nt cl w0) w v ↔ v = x := by
  constructor
  · rintro ⟨f, hE, hv⟩
    simp only [mkC, h] at hE
    have : v = f 0 := by simpa [List.range_succ] using hv
    rw [this]; exact hE
  · rintro rfl
    refine ⟨fun _ => v, ?_, rfl⟩
    simp only [mkC, h]
    rfl
theorem pvW {x : Value} (h : cl[c]? = some (clW x)) : PV csz numc okT nt cl w0 (op c) x := fun _ _ h1 => (op_isW h).1 h1
theorem rvW {x : Value} (h : cl[c]? = some (clW x)) : RV csz numc okT nt cl w0 (.val (op c)) x := fun _ => (op_isW h).2 rfl
theorem pdW {x : Value} {ds : List Nat} (h : cl[c]? = some (clW x)) (hx : Dg w0 x ds) : PD csz numc okT nt cl w0 (op c) ds := fun w v hb h1 => by
  rw [(op_isW h).1 h1]
  exact hx.below hb (Nat.le_refl _)
/-- **From values to a place**: slot, class, value. -/
theorem at_of (vals : List (Nat × Nat × Value)) (hd : a.defers = []) (hs : a.tmps.size = nt) (h : ∀ p ∈ vals, a.tmps[p.1]? = some p.2.2 ∧ cl[p.2.1]? = some (clW p.2.2)) : At (mkC csz numc okT nt cl w) (vals.map (fun p => Item.val p.1 (op p.2.1))) a w := by
  refine ⟨Below.refl _ _, hd, hs, ?_⟩
  have key : ∀ (vals : List (Nat × Nat × Value)) bs, (∀ p ∈ vals, a.tmps[p.1]? = some p.2.2 ∧ cl[p.2.1]? = some (clW p.2.2)) → ItemsAre (mkC csz numc okT nt cl w) a w (vals.map (fun p => Item.val p.1 (op p.2.1))) bs := by
    intro vals
    induction vals with
    | nil => intro _ _; trivial
    | cons p l ih => exact fun bs h => ⟨⟨p.2.2, (h p (by simp)).1, (op_isW (h p (by simp)).2).2 rfl⟩, ih bs (fun q hq => h q (List.mem_cons_of_mem _ hq))⟩
  exact key vals [] h
theorem item_v {t : Nat} {x : Value} {l : List Item} {bs : List Nat} (hc : cl[c]? = some (clW x)) (h : ItemsAre (mkC csz numc okT nt cl w0) a w (.val t (op c) :: l) bs) : a.tmps[t]? = some x ∧ ItemsAre (mkC csz numc okT nt cl w0) a w l bs := by
  obtain ⟨⟨v, h1, h2⟩, h3⟩ := h
  rw [(op_isW hc).1 h2] at h1
  exact ⟨h1, h3⟩
theorem vals_nil {P : Nat × Nat × Value → Prop} : ∀ t ∈ ([] : List (Nat × Nat × Value)), P t := fun t h => by simp at h
theorem vals_cons {P : Nat × Nat × Value → Prop} {a : Nat × Nat × Value} {l : List (Nat × Nat × Value)} (h : P a) (k : ∀ t ∈ l, P t) : ∀ t ∈ a :: l, P t := fun t ht => by
  rcases List.mem_cons.1 ht with rfl | ht
  · exact h
  · exact k t ht
end
end Sym
end Go.Proofs.YtccabfblgjcboaaGreatDoor

/- The reference's lists of digits: a digit; the digits without zeros at the end. -/
namespace Go.Proofs.YtccabfblgjcboaaGreatDoor
open Go Go.RowKit Go.Proofs Lim
namespace Sym

theorem und_nat : Tryz.prog.underlying 31 = some (.slice (Tryz.prog.elem 31)) := by kernel_rfl
theorem elem_nat : Tryz.prog.elem 31 = 3 := by kernel_rfl
theorem clVi_ok {okT : List Nat} {B : Nat} (n : Int) : (clV (ii n)).Ok okT B := clV_ok rfl
theorem noT {x : Nat} : ∀ t ∈ ([] : List Nat), t ≠ x := fun t h => by simp at h

/-! A digit. -/
abbrev cl_digit (ds : List Nat) (i : Nat) : List Cl := [clD ds, clV (ii (i : Int)), clP (ds.getD i 0), clV (ii ((ds.getD i 0 : Nat) : Int)), clV (ii (ds.length : Int))]
def t_digit1 : List Ent := [⟨.blt .len [31] 3, [op 0], .val (op 4)⟩, ⟨.bin .lss 3, [op 1, op 4], .val (vp (.bool true))⟩, ⟨.ix 31, [op 0, op 1], .val (op 2)⟩, ⟨.ld 3, [op 2], .val (op 3)⟩]
def t_digit2 : List Ent := [⟨.blt .len [31] 3, [op 0], .val (op 4)⟩, ⟨.bin .lss 3, [op 1, op 4], .val (vp (.bool false))⟩]
theorem digit_ok (v : Value) (ds : List Nat) (i : Nat) (w : World) (h : Dg w v ds) : Calls Tryz.prog 127 #[v, ii (i : Int)] w (fun e w' => e = .returned (ii ((ds.getD i 0 : Nat) : Int)) ∧ Below w.heap.size w w') := by
  have hC : (mkC [1, 1, 1, 1, 1] [false, true, true, true, true] [] 13 (cl_digit ds i) w).Ok :=
    mkC_ok (oks_cons (clD_ok noT ds) (oks_cons (clVi_ok _) (oks_cons (clP_ok noT _) (oks_cons (clVi_ok _) (oks_cons (clVi_ok _) oks_nil))))) rfl rfl
  have hv : PatsAre (mkC [1, 1, 1, 1, 1] [false, true, true, true, true] [] 13 (cl_digit ds i) w) w [op 0, op 1] [v, ii (i : Int)] := ⟨_, _, rfl, (op_isD rfl).2 h, _, _, rfl, (op_is rfl).2 rfl, rfl⟩
  by_cases hi : i < ds.length
  · have hT : ∀ t ∈ t_digit1, t.Valid (mkC [1, 1, 1, 1, 1] [false, true, true, true, true] [] 13 (cl_digit ds i) w) :=
      forall_cons (e_len und_nat (pd rfl) (rv rfl)) (forall_cons (e_lss (pv rfl) (pv rfl) (decide_eq_true (by omega))) (forall_cons (e_ix und_nat elem_nat (pd rfl) (pv rfl) hi rfl) (forall_cons (e_ld rfl (rv rfl)) forall_nil)))
    refine (run_mk hC hT 127 Tryz.f127 [op 0, op 1] (.val (op 3)) 30 Tryz.func127 rfl rfl rfl (by kernel_rfl) _ hv).mono ?_
    rintro e w' ⟨x, rfl, hx, hb⟩
    exact ⟨by rw [(op_is rfl).1 hx], hb⟩
  · have hT : ∀ t ∈ t_digit2, t.Valid (mkC [1, 1, 1, 1, 1] [false, true, true, true, true] [] 13 (cl_digit ds i) w) :=
      forall_cons (e_len und_nat (pd rfl) (rv rfl)) (forall_cons (e_lss (pv rfl) (pv rfl) (decide_eq_false (by omega))) forall_nil)
    refine (run_mk hC hT 127 Tryz.f127 [op 0, op 1] (.val (vp (ii 0))) 30 Tryz.func127 rfl rfl rfl (by kernel_rfl) _ hv).mono ?_
    rintro e w' ⟨x, rfl, hx, hb⟩
    refine ⟨?_, hb⟩
    rw [val_of hx, List.getD_eq_getElem?_getD, List.getElem?_eq_none (by omega)]
    rfl
section
variable {csz : List Nat} {numc : List Bool} {okT : List Nat} {nt : Nat} {cl : List Cl} {w0 : World} {p1 p2 : Pat} {res : RPat} {ds : List Nat} {i : Nat}
theorem e_digit (h1 : PD csz numc okT nt cl w0 p1 ds) (h2 : PV csz numc okT nt cl w0 p2 (ii (i : Int))) (h3 : RV csz numc okT nt cl w0 res (ii ((ds.getD i 0 : Nat) : Int))) : V csz numc okT nt cl w0 (.call 127) [p1, p2] res := by
  refine ⟨enters_of Tryz.func127 (by kernel_rfl) rfl, fun w vs hb hvs => ?_⟩
  obtain ⟨v1, _, rfl, h4, v2, _, rfl, h5, rfl⟩ := hvs
  obtain rfl := h2 _ _ h5
  refine (digit_ok v1 ds i w (h1 _ _ hb h4)).mono ?_
  rintro e w' ⟨rfl, hb⟩
  exact ⟨_, rfl, h3 w', hb⟩
end

/-! The digits without zeros at the end. -/
def strip (ds : List Nat) : List Nat := (ds.reverse.dropWhile (fun d => d == 0)).reverse
theorem strip_zero (l : List Nat) : strip (l ++ [0]) = strip l := by simp [strip]
theorem strip_pos (l : List Nat) {d : Nat} (h : d ≠ 0) : strip (l ++ [d]) = l ++ [d] := by simp [strip, h]
theorem strip_nil : strip [] = [] := rfl
theorem take_last {ds : List Nat} {n : Nat} (hn : n < ds.length) : ds.take (n + 1) = ds.take n ++ [ds.getD n 0] := by
  rw [List.take_add_one, List.getD_eq_getElem?_getD, List.getElem?_eq_getElem hn]
  rfl
/-- The state of the loop. -/
abbrev cl_trim (B : Nat) (ds : List Nat) (n : Nat) : List Cl := [clF B ds, clV (ii (n : Int)), clP (ds.getD (n - 1) 0), clV (ii ((n - 1 : Nat) : Int)), clV (ii ((ds.getD (n - 1) 0 : Nat) : Int)), clF B (ds.take n)]
noncomputable abbrev C_trim (B : Nat) (ds : List Nat) (n : Nat) (w : World) : Ctx := mkC [1, 1, 1, 1, 1, 1] [false, true, true, true, true, false] [] 21 (cl_trim B ds n) w
theorem trim_C (B : Nat) (ds : List Nat) (n : Nat) (w : World) : (C_trim B ds n w).Ok :=
  mkC_ok (oks_cons (clF_ok noT B ds) (oks_cons (clVi_ok _) (oks_cons (clP_ok noT _) (oks_cons (clVi_ok _) (oks_cons (clVi_ok _) (oks_cons (clF_ok noT B _) oks_nil)))))) rfl rfl
def t_trim0 : List Ent := [⟨.blt .len [31] 3, [op 0], .val (op 1)⟩]
def t_trim1 : List Ent := [⟨.bin .gtr 3, [op 1, vp (ii 0)], .val (vp (.bool true))⟩, ⟨.bin .sub 3, [op 1, vp (ii 1)], .val (op 3)⟩, ⟨.ix 31, [op 0, op 3], .val (op 2)⟩, ⟨.ld 3, [op 2], .val (op 4)⟩, ⟨.bin .eql 3, [op 4, vp (ii 0)], .val (vp (.bool true))⟩]
def t_trim2 : List Ent := [⟨.bin .gtr 3, [op 1, vp (ii 0)], .val (vp (.bool true))⟩, ⟨.bin .sub 3, [op 1, vp (ii 1)], .val (op 3)⟩, ⟨.ix 31, [op 0, op 3], .val (op 2)⟩, ⟨.ld 3, [op 2], .val (op 4)⟩, ⟨.bin .eql 3, [op 4, vp (ii 0)], .val (vp (.bool false))⟩]
def t_trim3 : List Ent := [⟨.bin .gtr 3, [op 1, vp (ii 0)], .val (vp (.bool false))⟩]
def t_trim4 : List Ent := [⟨.sl 31 false true false, [op 0, op 1], .val (op 5)⟩]
noncomputable def b_trim : Code := bodyOf Tryz.f123
theorem trim_ok (v : Value) (ds : List Nat) (w : World) (h : Dg w v ds) {B : Nat} (hB : ∀ k, v.ownBlock = some k → B ≤ k) : Calls Tryz.prog 123 #[v] w (fun e w' => ∃ v', e = .returned v' ∧ Dg w' v' (strip ds) ∧ (∀ k, v'.ownBlock = some k → B ≤ k) ∧ Below w.heap.size w w') := by
  have hlen := h.len
  refine calls_at (C := C_trim B ds ds.length w) (f := 123) (args := [op 0]) Tryz.func123 (c := .seq (seqL b_trim) (.seq (seqL (seqR b_trim)) (.seq (.block 0 (.loop (inner (inner (seqL (seqR (seqR b_trim))))))) (seqR (seqR (seqR b_trim)))))) rfl rfl (Nat.le_of_ble_eq_true rfl) (vs := [v]) ⟨_, _, rfl, (op_isF rfl).2 ⟨h, hB⟩, rfl⟩ (fun a hA => ?_)
  have hT0 : ∀ t ∈ t_trim0, t.Valid (C_trim B ds ds.length w) := forall_cons (e_len und_nat (pf rfl).pd (rv rfl)) forall_nil
  refine wp_seq (seg_is (trim_C _ _ _ _) hT0 (x := .normal) (n := 30) (post := [.val 0 (op 0)]) (by kernel_rfl) hA (fun a' w' hA => ?_))
  refine wp_seq (seg_is (trim_C _ _ _ _) hT0 (x := .normal) (n := 30) (post := [.val 0 (op 0), .val 3 (op 1)]) (by kernel_rfl) hA (fun a' w' hA => ?_))
  refine wp_seq (while_is (Θ := Nat) (fun n a w' => n ≤ ds.length ∧ strip (ds.take n) = strip ds ∧ At (C_trim B ds n w) [.val 0 (op 0), .val 3 (op 1)] a w') id ?_ ds.length ⟨Nat.le_refl _, by simp, hA⟩)
  rintro n a w1 ⟨hn, hs, hA⟩
  have hend : strip (ds.take n) = ds.take n → ∀ a' w', At (C_trim B ds n w) [.val 0 (op 0), .val 3 (op 1)] a' w' → (seqR (seqR (seqR b_trim))).wp Tryz.prog (bodyPost Tryz.prog Tryz.f123 (fun e w' => ∃ v', e = .returned v' ∧ Dg w' v' (strip ds) ∧ (∀ k, v'.ownBlock = some k → B ≤ k) ∧ Below w.heap.size w w')) a' w' := by
    intro he a' w' hA
    have hT : ∀ t ∈ t_trim4, t.Valid (C_trim B ds n w) := forall_cons (e_takeF und_nat elem_nat (pf rfl) (pv rfl) hn (rf rfl)) forall_nil
    refine seg_is (trim_C _ _ _ _) hT (x := .ret) (n := 30) (post := [.val 2 (op 5)]) (by kernel_rfl) hA (fun a' w' hA => at_ret rfl hA (fun v' hv => ⟨_, rfl, ?_, ((op_isF (ds := ds.take n) rfl).1 hv).2, hA.below⟩))
    have := ((op_isF (ds := ds.take n) rfl).1 hv).1
    rw [← hs, he]
    exact this
  by_cases h0 : n = 0
  · have hT : ∀ t ∈ t_trim3, t.Valid (C_trim B ds n w) := forall_cons (e_gtr (pv rfl) pvl (decide_eq_false (by omega))) forall_nil
    exact seg_is (trim_C _ _ _ _) hT (x := .exit 0) (n := 30) (post := [.val 0 (op 0), .val 3 (op 1)]) (by kernel_rfl) hA (fun a' w' hA => hend (by subst h0; rfl) a' w' hA)
  · obtain ⟨m, rfl⟩ : ∃ m, n = m + 1 := ⟨n - 1, by omega⟩
    by_cases hd : ds.getD m 0 = 0
    · have hT : ∀ t ∈ t_trim1, t.Valid (C_trim B ds (m + 1) w) := forall_cons (e_gtr (pv rfl) pvl (decide_eq_true (by omega))) (forall_cons (e_sub (u := (m : Int)) (by omega) (pv rfl) pvl (rv rfl) (by omega)) (forall_cons (e_ix und_nat elem_nat (pf rfl).pd (pv rfl) hn rfl) (forall_cons (e_ld rfl (rv rfl)) (forall_cons (e_eql (pv rfl) pvl (decide_eq_true (by simpa using hd))) forall_nil))))
      refine seg_is (trim_C _ _ _ _) hT (x := .normal) (n := 30) (post := [.val 0 (op 0), .val 3 (op 3)]) (by kernel_rfl) hA (fun a' w' hA => ⟨m, ⟨by omega, ?_, ?_⟩, by simp⟩)
      · rw [← hs, take_last hn, hd, strip_zero]
      · exact at_re hA [(0, 0), (1, 3)] (prs_cons rfl (prs_cons rfl prs_nil)) rfl rfl
    · have hT : ∀ t ∈ t_trim2, t.Valid (C_trim B ds (m + 1) w) := forall_cons (e_gtr (pv rfl) pvl (decide_eq_true (by omega))) (forall_cons (e_sub (u := (m : Int)) (by omega) (pv rfl) pvl (rv rfl) (by omega)) (forall_cons (e_ix und_nat elem_nat (pf rfl).pd (pv rfl) hn rfl) (forall_cons (e_ld rfl (rv rfl)) (forall_cons (e_eql (pv rfl) pvl (decide_eq_false (by simpa using hd))) forall_nil))))
      exact seg_is (trim_C _ _ _ _) hT (x := .exit 0) (n := 30) (post := [.val 0 (op 0), .val 3 (op 1)]) (by kernel_rfl) hA (fun a' w' hA => hend (by rw [take_last hn, strip_pos _ hd]) a' w' hA)
section
variable {csz : List Nat} {numc : List Bool} {okT : List Nat} {nt : Nat} {cl : List Cl} {w0 : World} {p1 p2 : Pat} {res : RPat} {ds : List Nat}
theorem e_trim (h1 : PD csz numc okT nt cl w0 p1 ds) (h3 : RD csz numc okT nt cl w0 res (strip ds)) : V csz numc okT nt cl w0 (.call 123) [p1] res := by
  refine ⟨enters_of Tryz.func123 (by kernel_rfl) rfl, fun w vs hb hvs => ?_⟩
  obtain ⟨v1, _, rfl, h4, rfl⟩ := hvs
  refine (trim_ok v1 ds w (h1 _ _ hb h4) (B := 0) (fun _ _ => Nat.zero_le _)).mono ?_
  rintro e w' ⟨v', rfl, hv, _, hb⟩
  exact ⟨_, rfl, h3 w' v' hv, hb⟩
theorem e_trimF {B : Nat} (h1 : PF csz numc okT nt cl w0 p1 B ds) (h3 : RF csz numc okT nt cl w0 res B (strip ds)) : V csz numc okT nt cl w0 (.call 123) [p1] res := by
  refine ⟨enters_of Tryz.func123 (by kernel_rfl) rfl, fun w vs hb hvs => ?_⟩
  obtain ⟨v1, _, rfl, h4, rfl⟩ := hvs
  obtain ⟨g1, g2⟩ := h1 _ _ hb h4
  refine (trim_ok v1 ds w g1 g2).mono ?_
  rintro e w' ⟨v', rfl, hv, hB, hb⟩
  exact ⟨_, rfl, h3 w' v' hv hB, hb⟩
end

/-! What a list of digits is worth. -/
def nat : List Nat → Nat
  | [] => 0
  | d :: ds => d + 10000 * nat ds
def Dig (ds : List Nat) : Prop := ∀ i, ds.getD i 0 < 10000
theorem nat_head (ds : List Nat) : nat ds = ds.getD 0 0 + 10000 * nat ds.tail := by cases ds <;> simp [nat]
theorem getD_tail (ds : List Nat) (j : Nat) : ds.tail.getD j 0 = ds.getD (j + 1) 0 := by cases ds <;> simp
theorem Dig.tail {ds : List Nat} (h : Dig ds) : Dig ds.tail := fun i => by rw [getD_tail]; exact h _
theorem nat_ext : ∀ {ds es : List Nat}, (∀ j, ds.getD j 0 = es.getD j 0) → nat ds = nat es
  | [], [], _ => rfl
  | [], e :: es, h => by
    have h0 := h 0
    have := nat_ext (ds := []) (es := es) (fun j => by simpa using h (j + 1))
    simp at h0
    simp only [nat] at this ⊢
    omega
  | d :: ds, es, h => by
    have h0 := h 0
    have := nat_ext (ds := ds) (es := es.tail) (fun j => by rw [getD_tail]; simpa using h (j + 1))
    rw [nat_head es]
    simp only [nat]
    simp at h0
    rw [this]
    simp [List.getD_eq_getElem?_getD, h0]
theorem nat_lt : ∀ {i : Nat} {ds es : List Nat}, Dig ds → ds.getD i 0 < es.getD i 0 → (∀ j, i < j → ds.getD j 0 = es.getD j 0) → nat ds < nat es
  | 0, ds, es, hd, hi, h => by
    have := nat_ext (ds := ds.tail) (es := es.tail) (fun j => by rw [getD_tail, getD_tail]; exact h _ (by omega))
    rw [nat_head ds, nat_head es, this]
    omega
  | i + 1, ds, es, hd, hi, h => by
    have := nat_lt (i := i) (ds := ds.tail) (es := es.tail) hd.tail (by rw [getD_tail, getD_tail]; exact hi) (fun j hj => by rw [getD_tail, getD_tail]; exact h _ (by omega))
    have h0 := hd 0
    rw [nat_head ds, nat_head es]
    omega

/-! The order of two lists. -/
def idx : Nat → Int
  | 0 => -1
  | m + 1 => (m : Int)
abbrev cl_order (ds es : List Nat) (k : Nat) : List Cl := [clD ds, clD es, clV (ii (idx k)), clV (ii ((ds.getD (k - 1) 0 : Nat) : Int)), clV (ii ((es.getD (k - 1) 0 : Nat) : Int)), clV (ii (idx (k - 1))), clV (ii (ds.length : Int)), clV (ii (es.length : Int)), clV (ii (if (es.length : Int) > (ds.length : Int) then (es.length : Int) else (ds.length : Int)))]
noncomputable abbrev C_order (ds es : List Nat) (k : Nat) (w : World) : Ctx := mkC [1, 1, 1, 1, 1, 1, 1, 1, 1] [false, false, true, true, true, true, true, true, true] [] 30 (cl_order ds es k) w
theorem order_C (ds es : List Nat) (k : Nat) (w : World) : (C_order ds es k w).Ok :=
  mkC_ok (oks_cons (clD_ok noT ds) (oks_cons (clD_ok noT es) (oks_cons (clVi_ok _) (oks_cons (clVi_ok _) (oks_cons (clVi_ok _) (oks_cons (clVi_ok _) (oks_cons (clVi_ok _) (oks_cons (clVi_ok _) (oks_cons (clVi_ok _) oks_nil))))))))) rfl rfl
def t_order0 : List Ent := [⟨.blt .len [31] 3, [op 0], .val (op 6)⟩, ⟨.blt .len [31] 3, [op 1], .val (op 7)⟩, ⟨.blt .max [3, 3] 3, [op 6, op 7], .val (op 8)⟩, ⟨.bin .sub 3, [op 8, vp (ii 1)], .val (op 2)⟩]
def t_order1 (b c : Bool) : List Ent := [⟨.bin .geq 3, [op 2, vp (ii 0)], .val (vp (.bool true))⟩, ⟨.call 127, [op 0, op 2], .val (op 3)⟩, ⟨.call 127, [op 1, op 2], .val (op 4)⟩, ⟨.bin .lss 3, [op 3, op 4], .val (vp (.bool b))⟩, ⟨.bin .gtr 3, [op 3, op 4], .val (vp (.bool c))⟩, ⟨.bin .sub 3, [op 2, vp (ii 1)], .val (op 5)⟩]
def t_order2 : List Ent := [⟨.bin .geq 3, [op 2, vp (ii 0)], .val (vp (.bool false))⟩]
noncomputable def b_order : Code := bodyOf Tryz.f89
def cmpN (m n : Nat) : Int := if m < n then -1 else if n < m then 1 else 0
theorem order_ok (v u : Value) (ds es : List Nat) (w : World) (h : Dg w v ds) (h' : Dg w u es) (hds : Dig ds) (hes : Dig es) : Calls Tryz.prog 89 #[v, u] w (fun e w' => e = .returned (ii (cmpN (nat ds) (nat es))) ∧ Below w.heap.size w w') := by
  have hl := h.len
  have hl' := h'.len
  have h0 : ∀ (ds : List Nat) j, ds.length ≤ j → ds.getD j 0 = 0 := fun ds j hj => by rw [List.getD_eq_getElem?_getD, List.getElem?_eq_none hj]; rfl
  obtain ⟨k0, hk0, hk1, hk2⟩ : ∃ k0, idx k0 = (if (es.length : Int) > (ds.length : Int) then (es.length : Int) else (ds.length : Int)) - 1 ∧ ds.length ≤ k0 ∧ es.length ≤ k0 := by
    refine ⟨max ds.length es.length, ?_, by omega, by omega⟩
    split
    · rw [show max ds.length es.length = es.length by omega]
      cases hk : es.length <;> simp [idx] <;> omega
    · rw [show max ds.length es.length = ds.length by omega]
      cases hk : ds.length <;> simp [idx] <;> omega
  have hk3 : idx k0 ≤ 9223372036854775807 ∧ -1 ≤ idx k0 := by rw [hk0]; split <;> omega
  refine calls_at (C := C_order ds es k0 w) (f := 89) (args := [op 0, op 1]) Tryz.func89 (c := .seq (seqL b_order) (.seq (.seq (seqL (seqL (seqR b_order))) (.block 0 (.loop (inner (inner (seqR (seqL (seqR b_order)))))))) (seqR (seqR b_order)))) rfl rfl (Nat.le_of_ble_eq_true rfl) (vs := [v, u]) ⟨_, _, rfl, (op_isD rfl).2 h, _, _, rfl, (op_isD rfl).2 h', rfl⟩ (fun a hA => ?_)
  have hT0 : ∀ t ∈ t_order0, t.Valid (C_order ds es k0 w) := forall_cons (e_len und_nat (pd rfl) (rv rfl)) (forall_cons (e_len und_nat (pd rfl) (rv rfl)) (forall_cons (e_max (pv rfl) (pv rfl) (rv rfl)) (forall_cons (e_sub hk0.symm (pv rfl) pvl (rv rfl) (by omega)) forall_nil)))
  refine wp_seq (seg_is (order_C _ _ _ _) hT0 (x := .normal) (n := 30) (post := [.val 0 (op 0), .val 1 (op 1)]) (by kernel_rfl) hA (fun a' w' hA => ?_))
  refine wp_seq (wp_seq (seg_is (order_C _ _ _ _) hT0 (x := .normal) (n := 30) (post := [.val 0 (op 0), .val 1 (op 1), .val 5 (op 2)]) (by kernel_rfl) hA (fun a' w' hA => ?_)))
  have hR : ∀ {f g : Act → World → Prop} a' w', bodyPost Tryz.prog Tryz.f89 (fun e w' => e = .returned (ii (cmpN (nat ds) (nat es))) ∧ Below w.heap.size w w') .ret a' w' → Exit.then f (Exit.inBlock 0 (Exit.then g (bodyPost Tryz.prog Tryz.f89 (fun e w' => e = .returned (ii (cmpN (nat ds) (nat es))) ∧ Below w.heap.size w w')))) Xt.ret.to a' w' := fun _ _ h => h
  refine while_is (Θ := Nat) (fun k a w' => k ≤ k0 ∧ (∀ j, k ≤ j → ds.getD j 0 = es.getD j 0) ∧ At (C_order ds es k w) [.val 0 (op 0), .val 1 (op 1), .val 5 (op 2)] a w') id ?_ k0 ⟨Nat.le_refl _, fun j hj => by rw [h0 _ _ (by omega), h0 _ _ (by omega)], hA⟩
  rintro k a w1 ⟨hk, hs, hA⟩
  cases k with
  | zero =>
    have hT : ∀ t ∈ t_order2, t.Valid (C_order ds es 0 w) := forall_cons (e_geq (pv rfl) pvl (decide_eq_false (by decide))) forall_nil
    refine seg_is (order_C _ _ _ _) hT (x := .exit 0) (n := 30) (post := [.val 0 (op 0)]) (by kernel_rfl) hA (fun a' w' hA => ?_)
    refine seg_is (order_C _ _ _ _) hT (x := .ret) (n := 30) (post := [.val 4 (vp (ii 0))]) (by kernel_rfl) hA (fun a' w' hA => at_ret rfl hA (fun v' hv => ⟨?_, hA.below⟩))
    rw [vp_is.1 hv, nat_ext (fun j => hs j (Nat.zero_le _))]
    simp [cmpN]
  | succ m =>
    have hm : (m : Int) ≤ 9223372036854775807 := by
      have : idx (m + 1) ≤ idx k0 := by cases k0 with | zero => omega | succ k0 => show (m : Int) ≤ (k0 : Int); omega
      have : (m : Int) ≤ idx k0 := this
      omega
    have hT : ∀ b c, decide (((ds.getD m 0 : Nat) : Int) < ((es.getD m 0 : Nat) : Int)) = b → decide (((ds.getD m 0 : Nat) : Int) > ((es.getD m 0 : Nat) : Int)) = c → ∀ t ∈ t_order1 b c, t.Valid (C_order ds es (m + 1) w) := fun b c hb hc =>
      forall_cons (e_geq (x := (m : Int)) (pv rfl) pvl (decide_eq_true (by omega))) (forall_cons (e_digit (i := m) (pd rfl) (pv rfl) (rv rfl)) (forall_cons (e_digit (i := m) (pd rfl) (pv rfl) (rv rfl)) (forall_cons (e_lss (pv rfl) (pv rfl) hb) (forall_cons (e_gtr (pv rfl) (pv rfl) hc) (forall_cons (e_sub (x := (m : Int)) (u := idx m) (by cases m with | zero => rfl | succ j => show ((j + 1 : Nat) : Int) - 1 = (j : Int); omega) (pv rfl) pvl (rv rfl) (by cases m with | zero => decide | succ j => show _ ≤ (j : Int) ∧ (j : Int) ≤ _; omega)) forall_nil)))))
    rcases Nat.lt_trichotomy (ds.getD m 0) (es.getD m 0) with hd | hd | hd
    · refine seg_is (order_C _ _ _ _) (hT true false (decide_eq_true (by omega)) (decide_eq_false (by omega))) (x := .ret) (n := 30) (post := [.val 4 (vp (ii (-1)))]) (by kernel_rfl) hA (fun a' w' hA => hR a' w' (at_ret rfl hA (fun v' hv => ⟨?_, hA.below⟩)))
      rw [vp_is.1 hv, cmpN, if_pos (nat_lt hds hd (fun j hj => hs j hj))]
    · refine seg_is (order_C _ _ _ _) (hT false false (decide_eq_false (by omega)) (decide_eq_false (by omega))) (x := .normal) (n := 30) (post := [.val 0 (op 0), .val 1 (op 1), .val 5 (op 5)]) (by kernel_rfl) hA (fun a' w' hA => ⟨m, ⟨by omega, fun j hj => ?_, ?_⟩, by simp⟩)
      · rcases Nat.lt_or_ge m j with h | h
        · exact hs j h
        · rw [show j = m by omega]; exact hd
      · exact at_re hA [(0, 0), (1, 1), (2, 5)] (prs_cons rfl (prs_cons rfl (prs_cons rfl prs_nil))) rfl rfl
    · refine seg_is (order_C _ _ _ _) (hT false true (decide_eq_false (by omega)) (decide_eq_true (by omega))) (x := .ret) (n := 30) (post := [.val 4 (vp (ii 1))]) (by kernel_rfl) hA (fun a' w' hA => hR a' w' (at_ret rfl hA (fun v' hv => ⟨?_, hA.below⟩)))
      have := nat_lt hes hd (fun j hj => (hs j hj).symm)
      rw [vp_is.1 hv, cmpN, if_neg (by omega), if_pos this]
end Sym
end Go.Proofs.YtccabfblgjcboaaGreatDoor

/- The reference's lists that grow: Small. -/
namespace Go.Proofs.YtccabfblgjcboaaGreatDoor
open Go Go.RowKit Go.Proofs Lim
namespace Sym

/-- The digits of a number. -/
def digs (n : Nat) : List Nat := if n = 0 then [] else n % 10000 :: digs (n / 10000)
theorem digs_zero : digs 0 = [] := by unfold digs; simp
theorem digs_pos {n : Nat} (h : n ≠ 0) : digs n = n % 10000 :: digs (n / 10000) := by rw [digs, if_neg h]
theorem digs_len : ∀ (k n : Nat), n < 10000 ^ k → (digs n).length ≤ k
  | 0, n, h => by
    have : n = 0 := by simpa using h
    subst this; simp [digs_zero]
  | k + 1, n, h => by
    by_cases h0 : n = 0
    · subst h0; simp [digs_zero]
    · rw [digs_pos h0]
      have := digs_len k (n / 10000) (by rw [Nat.div_lt_iff_lt_mul (by decide)]; rw [Nat.pow_succ] at h; exact h)
      simp only [List.length_cons]
      omega

/-- A list of digits that is the call's own, and may grow. -/
abbrev Own (B : Nat) (w : World) (z : Value) (l : List Nat) : Prop := w.ownsRow B 3 1 z l.length (l.map (fun d : Nat => ii (d : Int)))
theorem Own.below {B : Nat} {w w' : World} {z : Value} {l : List Nat} (h : Own B w z l) (hb : Below w.heap.size w w') : Own B w' z l :=
  h.kept (row := none) ⟨hb.os, hb.tape, hb.output, hb.size, fun k hk _ => hb.block k hk⟩ (by cases z.ownBlock <;> simp)
theorem Own.dg {B : Nat} {w : World} {z : Value} {l : List Nat} (h : Own B w z l) : Dg w z l := by
  obtain ⟨h1, h2⟩ := h
  rcases h2 with ⟨rfl, h3⟩ | ⟨g, cap, cur, rfl, hb, hg, hn, hc, hs, ht⟩
  · have : l = [] := List.eq_nil_of_length_eq_zero h3
    subst this
    exact Dg.nil w
  · refine ⟨_, cap, rfl, hn, by simp only [maxLen] at hc; omega, fun _ => ⟨g, 0, rfl, ⟨cur, _, hg⟩, fun i hi => ?_⟩⟩
    have h5 : (cur.toList.take (l.length * 1))[i]? = (l.map (fun d : Nat => ii (d : Int)))[i]? := by rw [ht]
    rw [List.getElem?_take, if_pos (by omega), List.getElem?_map, List.getElem?_eq_getElem hi] at h5
    simp only [World.cell?, hg, Nat.zero_add]
    rw [← Array.getElem?_toList, h5]
    simp [List.getD, hi]
theorem Own.one {B : Nat} {w : World} {z : Value} {l : List Nat} (h : Own B w z l) : z.oneCell' = true := by
  rcases h.2 with ⟨rfl, _⟩ | ⟨g, cap, cur, rfl, _⟩ <;> rfl
/-- A block that has just been made, of no element. -/
theorem Own.fresh {B k : Nat} {w : World} (h : w.heap[k]? = some (.cells #[] 3 (0, 0))) (hB : B ≤ k) : Own B w (.slice (some ⟨k, 0, none⟩) 0 0) [] :=
  ⟨rfl, .inr ⟨k, 0, #[], rfl, hB, h, Nat.le_refl _, by decide, rfl, rfl⟩⟩
/-- **An element is added.** -/
theorem wp_add {ops : Array Oper} {rest : List Oper} {o : Oper} {a : Act} {w : World} {Q : Exit → Act → World → Prop} {B s x d k : Nat} {z : Value} {l : List Nat} (hgd : o.guard = none) (ho : o.op = .call { callee := .builtin .append, args := #[.tmp s, .tmp x], argTypes := #[31, 31] })
    (hs : a.tmps[s]? = some z) (hx : a.tmps[x]? = some (.slice (some ⟨k, 0, none⟩) 1 1)) (hk : w.heap[k]? = some (.cells #[ii (d : Int)] 3 (0, 0))) (hown : Own B w z l) (hB : B ≤ w.heap.size) (hl : l.length < 1000000000)
    (h : ∀ z' w', Own B w' z' (l ++ [d]) → w.grownBy w' z.ownBlock → wpList Tryz.prog ops Q rest (a.put o.dst z') w') : wpList Tryz.prog ops Q (o :: rest) a w := by
  have hs' : a.eval (.tmp s) = z := by simp [Act.eval, Array.getD_eq_getD_getElem?, hs]
  have hx' : a.eval (.tmp x) = .slice (some ⟨k, 0, none⟩) 1 1 := by simp [Act.eval, Array.getD_eq_getD_getElem?, hx]
  obtain ⟨i, hi, hz, q1, q2⟩ : ∃ i, Tryz.prog.info? 3 = some i ∧ i.zero = some (ii 0) ∧ i.size = 1 ∧ i.bytes = 8 := by
    have h : (Tryz.prog.info? 3).map (fun i => (i.zero, i.size, i.bytes)) = some (some (ii 0), 1, 8) := by kernel_rfl
    obtain ⟨i, h1, h2⟩ := Option.map_eq_some_iff.1 h
    simp only [Prod.mk.injEq] at h2
    exact ⟨i, h1, h2.1, h2.2.1, h2.2.2⟩
  refine wpList_append_own w hgd (.tmp s) (.tmp x) 31 ho B 3 i (ii 0) 1 8 (by kernel_rfl) hi hz q1 q2 rfl (by decide) z l.length _ hs' hown ⟨k, 0, none⟩ 1 1 [ii (d : Int)] hx' rfl ?_ ?_ (by simp only [maxLen]; omega) (by omega) hB ?_
  · intro j u hj
    cases j with
    | zero =>
      have hj : u = ii (d : Int) := by simpa using hj.symm
      subst hj
      show w.cell? ⟨k, 0, none⟩ = _
      simp [World.cell?, hk]
    | succ j => simp at hj
  · intro u hu
    have : u = ii (d : Int) := by simpa using hu
    subst this; rfl
  · intro z' w' h1 h2 _
    refine h z' w' ?_ h2
    have : Own B w' z' (l ++ [d]) = w'.ownsRow B 3 1 z' (l.length + 1) ((l.map (fun d : Nat => ii (d : Int))) ++ [ii (d : Int)]) := by simp [Own]
    rw [this]
    exact h1
theorem put_self {a : Act} {d : Nat} {v : Value} (h : d < a.tmps.size) : (a.put (some d) v).tmps[d]? = some v := by simp [Act.put, h]
theorem put_ne {a : Act} {d t : Nat} {v : Value} (h : t ≠ d) : (a.put (some d) v).tmps[t]? = a.tmps[t]? := by simp [Act.put, Ne.symm h]
/-- An empty list is made. -/
theorem wp_empty {ops : Array Oper} {rest : List Oper} {o : Oper} {a : Act} {w : World} {Q : Exit → Act → World → Prop} (hgd : o.guard = none) (ho : o.op = .buildSlice 31 0 #[])
    (h : wpList Tryz.prog ops Q rest (a.put o.dst (.slice (some ⟨w.heap.size, 0, none⟩) 0 0)) (w.alloc (.cells #[] 3))) : wpList Tryz.prog ops Q (o :: rest) a w := by
  refine wpList_plain hgd fun K hK => ?_
  have hr : (Instr.buildSlice 31 0 #[]).run Tryz.prog w = .ok (.slice (some ⟨w.heap.size, 0, none⟩) 0 0) (w.alloc (.cells #[] 3)) := by
    have hu : Tryz.prog.underlying 31 = some (.slice 3) := by kernel_rfl
    simp [Instr.buildSlice, run_underlying hu, size_int, Instr.fill, newRow]
    rw [show Array.map (fun _ : Nat => (default : Value)) (Array.range 0) = #[] from Array.eq_empty_of_size_eq_zero (by rw [Array.size_map, Array.size_range])]
  unfold Oper.wp execOp
  simp only [ho, Array.map_empty, List.map_toArray, List.map_nil, Sem.run_bind, hr, Result.andThen_ok]
  exact hK _ _ h

/-! Small. -/
abbrev ui (n : Nat) : Value := .int .u64 (n : Int)
theorem clWu_ok {okT : List Nat} {B : Nat} (n : Nat) : (clW (ui n)).Ok okT B := clW_ok rfl
theorem clWi_ok {okT : List Nat} {B : Nat} (n : Int) : (clW (ii n)).Ok okT B := clW_ok rfl
abbrev cl_small (n : Nat) (z : Value) : List Cl := [clW (ui n), clW z, clW (ui (n % 10000)), clW (ii ((n % 10000 : Nat) : Int)), clW (ui (n / 10000))]
noncomputable abbrev C_small (n : Nat) (z : Value) (w : World) : Ctx := mkC [1, 1, 1, 1, 1] [false, false, false, false, false] [] 16 (cl_small n z) w
theorem small_C (n : Nat) {z : Value} (hz : z.oneCell' = true) (w : World) : (C_small n z w).Ok :=
  mkC_ok (oks_cons (clWu_ok _) (oks_cons (clW_ok hz) (oks_cons (clWu_ok _) (oks_cons (clWi_ok _) (oks_cons (clWu_ok _) oks_nil))))) rfl rfl
def t_small1 (b : Bool) : List Ent := [⟨.bin .gtr 23, [op 0, vp (ui 0)], .val (vp (.bool b))⟩]
def t_small2 : List Ent := [⟨.bin .rem 23, [op 0, vp (ui 10000)], .val (op 2)⟩, ⟨.cv 23 3, [op 2], .val (op 3)⟩, ⟨.bin .quo 23, [op 0, vp (ui 10000)], .val (op 4)⟩]
noncomputable def b_small : Code := bodyOf Tryz.f87
noncomputable def l_small : Code := inner (inner (seqL (seqR (seqR b_small))))
noncomputable def r_small : Code := seqL (inner (seqR l_small))
theorem small_T (n : Nat) (hn : n < 18446744073709551616) (z : Value) (w : World) : ∀ t ∈ t_small2, t.Valid (C_small n z w) :=
  forall_cons (e_rem (k := .u64) (m := n) (n := 10000) (pvW rfl) pvl (rvW rfl) (by decide)) (forall_cons (e_cv (by kernel_rfl) (by kernel_rfl) (by kernel_rfl) (pvW rfl) (rvW rfl) (by rw [IntKind.wrap_i64]; omega)) (forall_cons (e_quo (k := .u64) (m := n) (n := 10000) (pvW rfl) pvl (rvW rfl) (by decide) (by rw [IntKind.wrap_u64]; omega)) forall_nil))
theorem small_ok (n0 : Nat) (hn0 : n0 < 18446744073709551616) (w : World) : Calls Tryz.prog 87 #[ui n0] w (fun e w' => ∃ v, e = .returned v ∧ Dg w' v (digs n0) ∧ Below w.heap.size w w') := by
  have hlen : (digs n0).length ≤ 5 := digs_len 5 n0 (by omega)
  refine calls_at (C := C_small n0 (ii 0) w) (f := 87) (args := [op 0]) Tryz.func87 (c := .seq (seqL b_small) (.seq (seqL (seqR b_small)) (.seq (.block 0 (.loop l_small)) (seqR (seqR (seqR b_small)))))) rfl rfl (Nat.le_of_ble_eq_true rfl) (vs := [ui n0]) ⟨_, _, rfl, (op_isW rfl).2 rfl, rfl⟩ (fun a hA => ?_)
  refine wp_seq (seg_is (small_C n0 rfl w) (T := []) forall_nil (x := .normal) (n := 30) (post := [.val 0 (op 0)]) (by kernel_rfl) hA (fun a' w' hA => ?_))
  obtain ⟨s0, _⟩ := item_v rfl hA.items
  refine wp_seq ?_
  show (Code.region 1 (opsOf (seqL (seqR b_small))).toArray false).wp Tryz.prog _ _ _
  refine wp_region_lit (wp_empty rfl rfl ?_)
  have hz : Own w.heap.size (w'.alloc (.cells #[] 3)) (.slice (some ⟨w'.heap.size, 0, none⟩) 0 0) [] := Own.fresh (heap_alloc_new w' _) hA.below.size
  have hb1 : Below w.heap.size w (w'.alloc (.cells #[] 3)) := hA.below.alloc hA.below.size _
  have hsz : 4 < a'.tmps.size := by rw [hA.size]; show 4 < 16; decide
  have hA : At (C_small n0 (.slice (some ⟨w'.heap.size, 0, none⟩) 0 0) (w'.alloc (.cells #[] 3))) [.val 0 (op 0), .val 4 (op 1)] (a'.put (some 4) (.slice (some ⟨w'.heap.size, 0, none⟩) 0 0)) (w'.alloc (.cells #[] 3)) :=
    at_of [(0, 0, ui n0), (4, 1, .slice (some ⟨w'.heap.size, 0, none⟩) 0 0)] ((put_defers _ _ _).trans hA.defers) ((put_size _ _ _).trans hA.size) (vals_cons ⟨(put_ne (show (0 : Nat) ≠ 4 by decide)).trans s0, rfl⟩ (vals_cons ⟨put_self hsz, rfl⟩ vals_nil))
  refine ops_end (small_C n0 rfl _) (T := []) forall_nil (post := [.val 0 (op 0), .val 3 (op 1)]) (by kernel_rfl) hA (fun a' w2 hA => ?_)
  obtain ⟨s0, hI⟩ := item_v rfl hA.items
  obtain ⟨s3, _⟩ := item_v rfl hI
  refine wp_seq (while_is (Θ := Nat) (fun n a w1 => ∃ z l, digs n0 = l ++ digs n ∧ n ≤ n0 ∧ a.defers = [] ∧ a.tmps.size = 16 ∧ a.tmps[0]? = some (ui n) ∧ a.tmps[3]? = some z ∧ Own w.heap.size w1 z l ∧ Below w.heap.size w w1) id ?_ n0 ⟨_, [], rfl, Nat.le_refl _, hA.defers, hA.size, s0, s3, hz.below hA.below, hb1.trans (hA.below.mono hb1.size)⟩)
  rintro n a w1 ⟨z, l, hl, hn, hd, hs, s0, s3, hown, hb⟩
  have hA : At (C_small n z w1) [.val 0 (op 0), .val 3 (op 1)] a w1 := at_of [(0, 0, ui n), (3, 1, z)] hd hs (vals_cons ⟨s0, rfl⟩ (vals_cons ⟨s3, rfl⟩ vals_nil))
  have hC := small_C n hown.one w1
  by_cases h0 : n = 0
  · subst h0
    have hT : ∀ t ∈ t_small1 false, t.Valid (C_small 0 z w1) := forall_cons (e_gtr (pvW rfl) pvl (decide_eq_false (by omega))) forall_nil
    refine wp_seq (seg_is hC hT (x := .exit 0) (n := 30) (post := [.val 3 (op 1)]) (by kernel_rfl) hA (fun a' w' hA => ?_))
    refine seg_is hC (T := []) forall_nil (x := .ret) (n := 30) (post := [.val 2 (op 1)]) (by kernel_rfl) hA (fun a' w' hA => at_ret rfl hA (fun v hv => ⟨v, rfl, ?_, ?_⟩))
    · rw [(op_isW rfl).1 hv, hl, digs_zero, List.append_nil]
      exact (hown.below hA.below).dg
    · exact hb.trans (hA.below.mono hb.size)
  · have hT : ∀ t ∈ t_small1 true, t.Valid (C_small n z w1) := forall_cons (e_gtr (pvW rfl) pvl (decide_eq_true (by omega))) forall_nil
    refine wp_seq (seg_is hC hT (x := .normal) (n := 30) (post := [.val 0 (op 0), .val 3 (op 1)]) (by kernel_rfl) hA (fun a' w' hA => ?_))
    refine wp_block (wp_seq ?_)
    obtain ⟨s0, hI⟩ := item_v rfl hA.items
    obtain ⟨s3, _⟩ := item_v rfl hI
    have hd := hA.defers
    have hs := hA.size
    have hown := hown.below hA.below
    have hb := hb.trans (hA.below.mono hb.size)
    have hA : At (C_small n z w') [.val 0 (op 0), .val 3 (op 1)] a' w' := at_of [(0, 0, ui n), (3, 1, z)] hd hs (vals_cons ⟨s0, rfl⟩ (vals_cons ⟨s3, rfl⟩ vals_nil))
    have hT := small_T n (by omega) z w'
    show (Code.region 3 (opsOf r_small).toArray false).wp Tryz.prog _ _ _
    refine wp_region_lit ?_
    show wpList _ _ _ ((opsOf r_small).take 5 ++ (opsOf r_small).drop 5) _ _
    refine ops_is (small_C n hown.one w') hT (post := [.val 0 (op 0), .val 7 (op 1), .own 11 3 1 [.cls 3 1]]) (by kernel_rfl) hA (fun a3 w3 hA => ?_)
    obtain ⟨s0, hI⟩ := item_v rfl hA.items
    obtain ⟨s7, hI⟩ := item_v rfl hI
    obtain ⟨⟨k, vs, s11, hk, hkc, hvs⟩, _⟩ := hI
    have hvs : vs = [ii ((n % 10000 : Nat) : Int)] := by
      obtain ⟨xs, ys, rfl, ⟨f, hE, rfl⟩, hy⟩ := hvs
      rw [show ys = [] from hy]
      have hE : f 0 = ii ((n % 10000 : Nat) : Int) := hE
      simp [List.range_succ, hE]
    subst hvs
    have hB : w.heap.size ≤ w3.heap.size := Nat.le_trans hb.size hA.below.size
    have hll : l.length < 1000000000 := by
      have : (digs n0).length = l.length + (digs n).length := by rw [hl, List.length_append]
      omega
    have hb := hb.trans (hA.below.mono hb.size)
    have hown := hown.below hA.below
    refine wp_add rfl rfl s7 s11 hkc hown hB hll (fun z' w4 hown' hgr => ?_)
    have hsz : 12 < a3.tmps.size := by rw [hA.size]; show 12 < 16; decide
    have hb4 : Below w.heap.size w w4 := hb.trans ⟨hgr.os, hgr.tape, hgr.output, hgr.size, fun i hi => hgr.block i (by omega) (fun e => by have := hown.lt i e.symm; omega)⟩
    have hA : At (C_small n z' w4) [.val 0 (op 0), .val 12 (op 1)] (a3.put (some 12) z') w4 :=
      at_of [(0, 0, ui n), (12, 1, z')] ((put_defers _ _ _).trans hA.defers) ((put_size _ _ _).trans hA.size) (vals_cons ⟨(put_ne (show (0 : Nat) ≠ 12 by decide)).trans s0, rfl⟩ (vals_cons ⟨put_self hsz, rfl⟩ vals_nil))
    have hC := small_C n hown'.one w4
    refine ops_end hC (T := []) forall_nil (post := [.val 0 (op 0), .val 3 (op 1)]) (by kernel_rfl) hA (fun a5 w5 hA => ?_)
    show (seqR (inner (seqR l_small))).wp Tryz.prog _ _ _
    have hb5 := hb4.trans (hA.below.mono hb4.size)
    have hown5 := hown'.below hA.below
    obtain ⟨s0, hI⟩ := item_v rfl hA.items
    obtain ⟨s3, _⟩ := item_v rfl hI
    have hA : At (C_small n z' w5) [.val 0 (op 0), .val 3 (op 1)] a5 w5 := at_of [(0, 0, ui n), (3, 1, z')] hA.defers hA.size (vals_cons ⟨s0, rfl⟩ (vals_cons ⟨s3, rfl⟩ vals_nil))
    refine seg_is (small_C n hown'.one w5) (small_T n (by omega) z' w5) (x := .normal) (n := 30) (post := [.val 0 (op 4), .val 3 (op 1)]) (by kernel_rfl) hA (fun a6 w6 hA => ?_)
    obtain ⟨s0, hI⟩ := item_v rfl hA.items
    obtain ⟨s3, _⟩ := item_v rfl hI
    refine ⟨n / 10000, ⟨z', l ++ [n % 10000], ?_, by omega, hA.defers, hA.size, s0, s3, hown5.below hA.below, hb5.trans (hA.below.mono hb5.size)⟩, by show n / 10000 < n; omega⟩
    rw [hl, digs_pos h0, List.append_assoc]
    rfl
end Sym
end Go.Proofs.YtccabfblgjcboaaGreatDoor

/- Pieces over values known by name: slots and values before and after; lists that grow, and are written. -/
namespace Go.Proofs.YtccabfblgjcboaaGreatDoor
open Go Go.RowKit Go.Proofs Lim
namespace Sym

/-- The context of some values. -/
noncomputable def CV (nt : Nat) (vl : List Value) (w : World) : Ctx := mkC (vl.map (fun _ => 1)) (vl.map (fun _ => false)) [] nt (vl.map clW) w
def ones : List Value → Bool
  | [] => true
  | v :: l => match v.oneCell' with
    | true => ones l
    | false => false
theorem CV_ok {nt : Nat} {vl : List Value} {w : World} (h : ∀ v ∈ vl, v.oneCell' = true) : (CV nt vl w).Ok := by
  refine mkC_ok (fun x hx => ?_) (by rw [List.map_map]; rfl) (by rw [List.map_map]; rfl)
  obtain ⟨v, hv, rfl⟩ := List.mem_map.1 hx
  exact clW_ok (h v hv)
theorem one_nil : ∀ v ∈ ([] : List Value), v.oneCell' = true := fun t h => by simp at h
theorem one_cons {a : Value} {l : List Value} (h : a.oneCell' = true) (k : ∀ v ∈ l, v.oneCell' = true) : ∀ t ∈ a :: l, t.oneCell' = true := fun t ht => by
  rcases List.mem_cons.1 ht with rfl | ht
  · exact h
  · exact k t ht
/-- What stands in slots. -/
def Sl (a : Act) (vl : List Value) : List (Nat × Nat) → Prop
  | [] => True
  | p :: l => a.tmps[p.1]? = some (vl.getD p.2 undef) ∧ Sl a vl l
structure St' (nt : Nat) (vl : List Value) (is : List (Nat × Nat)) (a : Act) : Prop where
  defers : a.defers = []
  size : a.tmps.size = nt
  sl : Sl a vl is
def itemsOf : List (Nat × Nat) → List Item
  | [] => []
  | p :: l => .val p.1 (op p.2) :: itemsOf l
def inVl : List (Nat × Nat) → Nat → Bool
  | [], _ => true
  | p :: l, n => match Nat.blt p.2 n with
    | true => inVl l n
    | false => false
theorem getVl {vl : List Value} {c : Nat} (h : c < vl.length) : (vl.map clW)[c]? = some (clW (vl.getD c undef)) := by
  rw [List.getElem?_map, List.getElem?_eq_getElem h]
  simp [List.getD, h]
theorem St'.at {nt : Nat} {vl : List Value} {is : List (Nat × Nat)} {a : Act} {w : World} (h : St' nt vl is a) (hi : inVl is vl.length = true) : At (CV nt vl w) (itemsOf is) a w := by
  refine ⟨Below.refl _ _, h.defers, h.size, ?_⟩
  have key : ∀ (is : List (Nat × Nat)) bs, Sl a vl is → inVl is vl.length = true → ItemsAre (CV nt vl w) a w (itemsOf is) bs := by
    intro is
    induction is with
    | nil => intro _ _ _; trivial
    | cons p l ih =>
      intro bs h hi
      unfold inVl at hi
      split at hi
      · rename_i hp
        exact ⟨⟨_, h.1, (op_isW (getVl (by simpa using hp))).2 rfl⟩, ih bs h.2 hi⟩
      · cases hi
  exact key is [] h.sl hi
theorem items_sl {nt : Nat} {vl : List Value} {a : Act} {w0 w : World} {rest : List Item} : ∀ {is : List (Nat × Nat)} {bs : List Nat}, inVl is vl.length = true → ItemsAre (CV nt vl w0) a w (itemsOf is ++ rest) bs → Sl a vl is ∧ ItemsAre (CV nt vl w0) a w rest bs
  | [], bs, _, h => ⟨trivial, h⟩
  | p :: l, bs, hi, h => by
    unfold inVl at hi
    split at hi
    · rename_i hp
      obtain ⟨⟨v, h1, h2⟩, h3⟩ := h
      rw [(op_isW (getVl (by simpa using hp))).1 h2] at h1
      obtain ⟨q1, q2⟩ := items_sl hi h3
      exact ⟨⟨h1, q1⟩, q2⟩
    · cases hi

section
variable {nt : Nat} {vl : List Value} {w : World} {a : Act} {T : List Ent} {Q : Exit → Act → World → Prop}
/-- **A piece.** -/
theorem seg_v (pre post : List (Nat × Nat)) {n : Nat} {c : Code} {x : Xt} (h1 : ∀ v ∈ vl, v.oneCell' = true) (hT : ∀ t ∈ T, t.Valid (CV nt vl w)) (hs : St' nt vl pre a)
    (h : segB (CV nt vl w).toStat T n c (itemsOf pre) x (itemsOf post) = true) (hi : inVl pre vl.length = true) (hi' : inVl post vl.length = true)
    (hQ : ∀ a' w', St' nt vl post a' → Below w.heap.size w w' → Q x.to a' w') : c.wp Tryz.prog Q a w := by
  refine seg_is (CV_ok h1) hT h (hs.at hi) (fun a' w' hA => hQ a' w' ⟨hA.defers, hA.size, ?_⟩ hA.below)
  have := hA.items
  rw [← List.append_nil (itemsOf post)] at this
  exact (items_sl hi' this).1
/-- A piece at whose end a list is at hand. -/
theorem seg_vd (pre post : List (Nat × Nat)) {t : Nat} {n : Nat} {c : Code} {x : Xt} {ds : List Nat} {csz : List Nat} {numc : List Bool} {cl : List Cl} (hC : (mkC csz numc [] nt cl w).Ok) (hT : ∀ t ∈ T, t.Valid (mkC csz numc [] nt cl w)) (hs : St' nt vl pre a) (d : Nat)
    (hcl : ∀ i < vl.length, cl[i]? = some (clW (vl.getD i undef))) (hd : cl[d]? = some (clD ds))
    (h : segB (mkC csz numc [] nt cl w).toStat T n c (itemsOf pre) x (.val t (op d) :: itemsOf post) = true) (hi : inVl pre vl.length = true) (hi' : inVl post vl.length = true)
    (hQ : ∀ a' w' v, a'.tmps[t]? = some v → Dg w' v ds → St' nt vl post a' → Below w.heap.size w w' → Q x.to a' w') : c.wp Tryz.prog Q a w := by
  have hA : At (mkC csz numc [] nt cl w) (itemsOf pre) a w := by
    refine ⟨Below.refl _ _, hs.defers, hs.size, ?_⟩
    have key : ∀ (is : List (Nat × Nat)) bs, Sl a vl is → inVl is vl.length = true → ItemsAre (mkC csz numc [] nt cl w) a w (itemsOf is) bs := by
      intro is
      induction is with
      | nil => intro _ _ _; trivial
      | cons p l ih =>
        intro bs h hi
        unfold inVl at hi
        split at hi
        · rename_i hp
          exact ⟨⟨_, h.1, (op_isW (hcl _ (by simpa using hp))).2 rfl⟩, ih bs h.2 hi⟩
        · cases hi
    exact key pre [] hs.sl hi
  refine seg_is hC hT h hA (fun a' w' hA => ?_)
  obtain ⟨⟨v, h1, h2⟩, h3⟩ := hA.items
  refine hQ a' w' v h1 ((op_isD hd).1 h2) ⟨hA.defers, hA.size, ?_⟩ hA.below
  have key : ∀ (is : List (Nat × Nat)) bs, inVl is vl.length = true → ItemsAre (mkC csz numc [] nt cl w) a' w' (itemsOf is) bs → Sl a' vl is := by
    intro is
    induction is with
    | nil => intro _ _ _; trivial
    | cons p l ih =>
      intro bs hi h
      unfold inVl at hi
      split at hi
      · rename_i hp
        obtain ⟨⟨v, h1, h2⟩, h3⟩ := h
        rw [(op_isW (hcl _ (by simpa using hp))).1 h2] at h1
        exact ⟨h1, ih bs hi h3⟩
      · cases hi
  exact key post [] hi' h3
/-- The same, and where it lies. -/
theorem seg_vf (pre post : List (Nat × Nat)) {t : Nat} {n : Nat} {c : Code} {x : Xt} {ds : List Nat} {B : Nat} {csz : List Nat} {numc : List Bool} {cl : List Cl} (hC : (mkC csz numc [] nt cl w).Ok) (hT : ∀ t ∈ T, t.Valid (mkC csz numc [] nt cl w)) (hs : St' nt vl pre a) (d : Nat)
    (hcl : ∀ i < vl.length, cl[i]? = some (clW (vl.getD i undef))) (hd : cl[d]? = some (clF B ds))
    (h : segB (mkC csz numc [] nt cl w).toStat T n c (itemsOf pre) x (.val t (op d) :: itemsOf post) = true) (hi : inVl pre vl.length = true) (hi' : inVl post vl.length = true)
    (hQ : ∀ a' w' v, a'.tmps[t]? = some v → Dg w' v ds → (∀ k, v.ownBlock = some k → B ≤ k) → St' nt vl post a' → Below w.heap.size w w' → Q x.to a' w') : c.wp Tryz.prog Q a w := by
  have hA : At (mkC csz numc [] nt cl w) (itemsOf pre) a w := by
    refine ⟨Below.refl _ _, hs.defers, hs.size, ?_⟩
    have key : ∀ (is : List (Nat × Nat)) bs, Sl a vl is → inVl is vl.length = true → ItemsAre (mkC csz numc [] nt cl w) a w (itemsOf is) bs := by
      intro is
      induction is with
      | nil => intro _ _ _; trivial
      | cons p l ih =>
        intro bs h hi
        unfold inVl at hi
        split at hi
        · rename_i hp
          exact ⟨⟨_, h.1, (op_isW (hcl _ (by simpa using hp))).2 rfl⟩, ih bs h.2 hi⟩
        · cases hi
    exact key pre [] hs.sl hi
  refine seg_is hC hT h hA (fun a' w' hA => ?_)
  obtain ⟨⟨v, h1, h2⟩, h3⟩ := hA.items
  refine hQ a' w' v h1 ((op_isF hd).1 h2).1 ((op_isF hd).1 h2).2 ⟨hA.defers, hA.size, ?_⟩ hA.below
  have key : ∀ (is : List (Nat × Nat)) bs, inVl is vl.length = true → ItemsAre (mkC csz numc [] nt cl w) a' w' (itemsOf is) bs → Sl a' vl is := by
    intro is
    induction is with
    | nil => intro _ _ _; trivial
    | cons p l ih =>
      intro bs hi h
      unfold inVl at hi
      split at hi
      · rename_i hp
        obtain ⟨⟨v, h1, h2⟩, h3⟩ := h
        rw [(op_isW (hcl _ (by simpa using hp))).1 h2] at h1
        exact ⟨h1, ih bs hi h3⟩
      · cases hi
  exact key post [] hi' h3
theorem pfW {csz : List Nat} {numc : List Bool} {okT : List Nat} {cl : List Cl} {w0 : World} {c B : Nat} {x : Value} {ds : List Nat} (h : cl[c]? = some (clW x)) (hx : Dg w0 x ds) (hB : ∀ k, x.ownBlock = some k → B ≤ k) : PF csz numc okT nt cl w0 (op c) B ds := fun w v hb h1 => by
  rw [(op_isW h).1 h1]
  exact ⟨hx.below hb (Nat.le_refl _), hB⟩
def apartFrom : List (Nat × Nat) → Nat → Bool
  | [], _ => true
  | p :: l, d => match Nat.beq p.1 d with
    | true => false
    | false => apartFrom l d
theorem Sl.put {is : List (Nat × Nat)} {d : Nat} {v : Value} : apartFrom is d = true → Sl a vl is → Sl (a.put (some d) v) vl is := by
  induction is with
  | nil => intro _ _; trivial
  | cons p l ih =>
    intro h hs
    unfold apartFrom at h
    split at h
    · cases h
    · rename_i hp
      refine ⟨(put_ne (fun e => ?_)).trans hs.1, ih h hs.2⟩
      rw [e] at hp
      simp at hp
/-- **A list grows**: a region whose last two operations append one digit, and assign. -/
theorem push_v (pre post : List (Nat × Nat)) {id : Nat} {l : List Oper} (i : Nat) {oa os : Oper} {s x d t B cd : Nat} {z : Value} {ds : List Nat} {dg : Nat} (h1 : ∀ v ∈ vl, v.oneCell' = true) (hT : ∀ t ∈ T, t.Valid (CV nt vl w)) (hs : St' nt vl pre a) (cz : Nat)
    (h : opsB (CV nt vl w).toStat T (l.take i) (itemsOf pre) (itemsOf ((s, cz) :: post) ++ [.own x 3 1 [.cls cd 1]]) = true) (hl : l.drop i = [oa, os]) (hg : oa.guard = none) (hg' : os.guard = none)
    (ho : oa.op = .call { callee := .builtin .append, args := #[.tmp s, .tmp x], argTypes := #[31, 31] }) (hd : oa.dst = some d) (ho' : os.op = .assign (.tmp d)) (hd' : os.dst = some t)
    (hcz : vl[cz]? = some z) (hcd : vl[cd]? = some (ii (dg : Int))) (hlim : Nat.blt d nt = true) (hlim' : Nat.blt t nt = true) (hap : apartFrom post d = true) (hap' : apartFrom post t = true)
    (hi : inVl pre vl.length = true) (hi' : inVl ((s, cz) :: post) vl.length = true) (hown : Own B w z ds) (hB : B ≤ w.heap.size) (hlen : ds.length < 1000000000)
    (hQ : ∀ z' a' w', a'.tmps[t]? = some z' → Own B w' z' (ds ++ [dg]) → St' nt vl post a' → Below B w w' → Q .normal a' w') : (Code.region id l.toArray false).wp Tryz.prog Q a w := by
  refine wp_region_lit ?_
  rw [show wpList Tryz.prog l.toArray Q l a w = wpList Tryz.prog l.toArray Q (l.take i ++ l.drop i) a w by rw [List.take_append_drop], hl]
  refine ops_is (CV_ok h1) hT h (hs.at hi) (fun a2 w2 hA => ?_)
  obtain ⟨⟨sz, hsl⟩, ⟨k, vs, s11, hk, hkc, hvs⟩, _⟩ := items_sl hi' hA.items
  have hvs : vs = [ii (dg : Int)] := by
    obtain ⟨xs, ys, rfl, ⟨f, hE, rfl⟩, hy⟩ := hvs
    rw [show ys = [] from hy]
    have hc := getVl (vl := vl) (c := cd) (List.getElem?_eq_some_iff.1 hcd).1
    rw [show vl.getD cd undef = ii (dg : Int) by rw [List.getD, hcd]; rfl] at hc
    simp only [CV, mkC, hc] at hE
    have hE : f 0 = ii (dg : Int) := hE
    simp [List.range_succ, hE]
  subst hvs
  have sz : a2.tmps[s]? = some z := by
    rw [sz, List.getD, hcz]; rfl
  have hB2 : B ≤ w2.heap.size := Nat.le_trans hB hA.below.size
  refine wp_add hg ho sz s11 hkc (hown.below hA.below) hB2 hlen (fun z' w3 hown' hgr => ?_)
  rw [hd]
  refine wpList_plain hg' (fun K hK => ?_)
  have hsz : d < a2.tmps.size := by
    have : d < nt := by simpa using hlim
    rw [hA.size]; exact this
  have hst : t < (a2.put (some d) z').tmps.size := by
    have : t < nt := by simpa using hlim'
    rw [put_size, hA.size]; exact this
  have hev : (a2.put (some d) z').eval (.tmp d) = z' := by simp [Act.eval, Array.getD_eq_getD_getElem?, put_self hsz]
  have hw : (execOp (a2.put (some d) z').eval os).run (CV nt vl w).P w3 = .ok (.value z') w3 := by simp only [execOp, ho', hev]; rfl
  refine wp_of_value hw (hK _ _ ?_)
  rw [hd']
  have hlt := (hown.below hA.below).lt
  refine hQ z' _ w3 (put_self hst) hown' ⟨(put_defers _ _ _).trans ((put_defers _ _ _).trans hA.defers), (put_size _ _ _).trans ((put_size _ _ _).trans hA.size), Sl.put hap' (Sl.put hap hsl)⟩ ?_
  exact (hA.below.mono hB).trans ⟨hgr.os, hgr.tape, hgr.output, hgr.size, fun i hi => hgr.block i (by omega) (fun e => by have := hlt i e.symm; omega)⟩
end
/-- Slots with values that are given. -/
def Ll (a : Act) : List (Nat × Value) → Prop
  | [] => True
  | p :: l => a.tmps[p.1]? = some p.2 ∧ Ll a l
def litsOf : List (Nat × Value) → List Item
  | [] => []
  | p :: l => .val p.1 (vp p.2) :: litsOf l
theorem lits_ll {C : Ctx} {a : Act} {w : World} : ∀ {l : List (Nat × Value)} {bs : List Nat}, ItemsAre C a w (litsOf l) bs → Ll a l
  | [], _, _ => trivial
  | p :: l, bs, ⟨⟨v, h1, h2⟩, h3⟩ => by
    rw [vp_is.1 h2] at h1
    exact ⟨h1, lits_ll h3⟩
/-- A piece at whose end some slots have values that are given. -/
theorem seg_vl {nt : Nat} {vl : List Value} {w : World} {a : Act} {T : List Ent} {Q : Exit → Act → World → Prop} (pre post : List (Nat × Nat)) (lits : List (Nat × Value)) {n : Nat} {c : Code} {x : Xt} (h1 : ∀ v ∈ vl, v.oneCell' = true) (hT : ∀ t ∈ T, t.Valid (CV nt vl w)) (hs : St' nt vl pre a)
    (h : segB (CV nt vl w).toStat T n c (itemsOf pre) x (itemsOf post ++ litsOf lits) = true) (hi : inVl pre vl.length = true) (hi' : inVl post vl.length = true)
    (hQ : ∀ a' w', St' nt vl post a' → Ll a' lits → Below w.heap.size w w' → Q x.to a' w') : c.wp Tryz.prog Q a w := by
  refine seg_is (CV_ok h1) hT h (hs.at hi) (fun a' w' hA => ?_)
  obtain ⟨q1, q2⟩ := items_sl hi' hA.items
  exact hQ a' w' ⟨hA.defers, hA.size, q1⟩ (lits_ll q2) hA.below
/-- A call of two arguments. -/
theorem calls_v2 {nt : Nat} {w : World} {f : FuncId} {fn : Func} {c : Code} (hf : Tryz.prog.funcs[f]? = some fn) (hb : fn.body = some c) (hnt : fn.ntmps = nt) (hlen : Nat.ble 2 nt = true) (x y : Value) {Q : Ending → World → Prop}
    (h : ∀ a, St' nt [x, y] [(0, 0), (1, 1)] a → c.wp Tryz.prog (bodyPost Tryz.prog fn Q) a w) : Calls Tryz.prog f #[x, y] w Q :=
  calls_at (C := CV nt [x, y] w) (args := [op 0, op 1]) hf hb hnt (Nat.le_of_ble_eq_true hlen) (vs := [x, y]) ⟨_, _, rfl, (op_isW rfl).2 rfl, _, _, rfl, (op_isW rfl).2 rfl, rfl⟩ (fun a hA => h a ⟨hA.defers, hA.size, (items_sl (is := [(0, 0), (1, 1)]) (rest := []) rfl hA.items).1⟩)
theorem ret_v {fn : Func} {t : Nat} {a : Act} {w : World} {v : Value} (hr : fn.results = #[.tmp t]) (hd : a.defers = []) (ht : a.tmps[t]? = some v) {Q : Ending → World → Prop} (h : Q (.returned v) w) : bodyPost Tryz.prog fn Q .ret a w := by
  refine ⟨hd, v, ?_, h⟩
  rw [results_eq, hr]
  have : a.tmps.getD t undef = v := by rw [Array.getD_eq_getD_getElem?, ht]; rfl
  simp [resF, this]
/-- An empty list in a slot. -/
theorem empty_v {nt : Nat} {vl : List Value} {w : World} {a : Act} {Q : Exit → Act → World → Prop} (is : List (Nat × Nat)) {id : Nat} {o1 o2 : Oper} {d t : Nat} (hs : St' nt vl is a) (hg : o1.guard = none) (hg' : o2.guard = none) (ho : o1.op = .buildSlice 31 0 #[]) (hd : o1.dst = some d) (ho' : o2.op = .assign (.tmp d)) (hd' : o2.dst = some t)
    (hlim : Nat.blt d nt = true) (hlim' : Nat.blt t nt = true) (hap : apartFrom is d = true) (hap' : apartFrom is t = true) {B : Nat} (hB : B ≤ w.heap.size)
    (hQ : ∀ z a' w', a'.tmps[t]? = some z → Own B w' z [] → St' nt vl is a' → Below w.heap.size w w' → Q .normal a' w') : (Code.region id [o1, o2].toArray false).wp Tryz.prog Q a w := by
  refine wp_region_lit (wp_empty hg ho ?_)
  rw [hd]
  refine wpList_plain hg' (fun K hK => ?_)
  have hsz : d < a.tmps.size := by
    have : d < nt := by simpa using hlim
    rw [hs.size]; exact this
  have hst : ∀ v, t < (a.put (some d) v).tmps.size := fun v => by
    have : t < nt := by simpa using hlim'
    rw [put_size, hs.size]; exact this
  have hev : ∀ z', (a.put (some d) z').eval (.tmp d) = z' := fun z' => by simp [Act.eval, Array.getD_eq_getD_getElem?, put_self hsz]
  have hw : (execOp (a.put (some d) (.slice (some ⟨w.heap.size, 0, none⟩) 0 0)).eval o2).run Tryz.prog (w.alloc (.cells #[] 3)) = .ok (.value (.slice (some ⟨w.heap.size, 0, none⟩) 0 0)) (w.alloc (.cells #[] 3)) := by simp only [execOp, ho', hev]; rfl
  unfold Oper.wp
  rw [hw]
  refine hK _ _ ?_
  rw [hd']
  refine hQ _ _ _ (put_self (hst _)) (Own.fresh (heap_alloc_new w _) hB) ⟨(put_defers _ _ _).trans ((put_defers _ _ _).trans hs.defers), (put_size _ _ _).trans ((put_size _ _ _).trans hs.size), Sl.put hap' (Sl.put hap hs.sl)⟩ ((Below.refl _ _).alloc (Nat.le_refl _) _)

/-! Digits and numbers. -/
theorem strip_cons (d : Nat) (l : List Nat) : strip (d :: l) = if d = 0 ∧ strip l = [] then [] else d :: strip l := by
  have key : ∀ (l : List Nat), (l ++ [d]).dropWhile (fun d => d == 0) = if l.dropWhile (fun d => d == 0) = [] then [d].dropWhile (fun d => d == 0) else l.dropWhile (fun d => d == 0) ++ [d] := by
    intro l
    induction l with
    | nil => simp
    | cons e l ih =>
      simp only [List.cons_append, List.dropWhile_cons]
      split
      · rw [ih]; simp [List.dropWhile_cons]
      · simp
  unfold strip
  rw [List.reverse_cons, key]
  by_cases h : l.reverse.dropWhile (fun d => d == 0) = []
  · by_cases hd : d = 0 <;> simp [h, hd]
  · simp [h]
theorem digs_nat : ∀ {l : List Nat}, (∀ d ∈ l, d < 10000) → digs (nat l) = strip l
  | [], _ => by rw [strip_nil]; exact digs_zero
  | d :: l, h => by
    have ih := digs_nat (l := l) (fun x hx => h x (List.mem_cons_of_mem _ hx))
    have hd := h d (by simp)
    rw [strip_cons, ← ih]
    show digs (d + 10000 * nat l) = _
    by_cases h0 : d + 10000 * nat l = 0
    · rw [h0, digs_zero, if_pos ⟨by omega, by rw [show nat l = 0 by omega, digs_zero]⟩]
    · rw [digs_pos h0, show (d + 10000 * nat l) % 10000 = d by omega, show (d + 10000 * nat l) / 10000 = nat l by omega, if_neg]
      rintro ⟨h1, h2⟩
      apply h0
      have : nat l = 0 := by
        cases hn : nat l with
        | zero => rfl
        | succ m => rw [digs_pos (by omega)] at h2; cases h2
      omega
theorem nat_snoc : ∀ (l : List Nat) (d : Nat), nat (l ++ [d]) = nat l + 10000 ^ l.length * d
  | [], d => by simp [nat]
  | e :: l, d => by
    show e + 10000 * nat (l ++ [d]) = e + 10000 * nat l + 10000 ^ (l.length + 1) * d
    rw [nat_snoc l d, Nat.pow_succ, Nat.mul_add, Nat.add_assoc, Nat.mul_comm (10000 ^ l.length) 10000, Nat.mul_assoc]
theorem nat_bound : ∀ {l : List Nat}, (∀ d ∈ l, d < 10000) → nat l < 10000 ^ l.length
  | [], _ => by simp [nat]
  | d :: l, h => by
    have := nat_bound (l := l) (fun x hx => h x (List.mem_cons_of_mem _ hx))
    have hd := h d (by simp)
    show d + 10000 * nat l < 10000 ^ (l.length + 1)
    rw [Nat.pow_succ]
    omega
theorem nat_drop (ds : List Nat) (i : Nat) : nat (ds.drop i) = ds.getD i 0 + 10000 * nat (ds.drop (i + 1)) := by
  rw [nat_head (ds.drop i)]
  congr 1
  · simp [List.getD, List.getElem?_drop]
  · rw [List.tail_drop]
theorem nat_drop_end {ds : List Nat} {i : Nat} (h : ds.length ≤ i) : nat (ds.drop i) = 0 := by
  rw [List.drop_eq_nil_of_le h]; rfl

/-- Where an element lies, by name. -/
def ptrAt : Value → Nat → Value
  | .slice (some ⟨b, off, none⟩) _ _, n => .pointer (some ⟨b, off + n, none⟩)
  | _, _ => .pointer none
theorem ptrAt_one (v : Value) (n : Nat) : (ptrAt v n).oneCell' = true := by unfold ptrAt; split <;> rfl
section
variable {csz : List Nat} {numc : List Bool} {okT : List Nat} {nt : Nat} {cl : List Cl} {w0 : World} {p1 p2 : Pat} {res : RPat} {ds : List Nat} {n : Nat} {x : Value}
theorem e_ixW {t : Nat} (ht : Tryz.prog.underlying t = some (.slice (Tryz.prog.elem t))) (he : Tryz.prog.elem t = 3) (h1 : PV csz numc okT nt cl w0 p1 x) (hx : Dg w0 x ds) (h2 : PV csz numc okT nt cl w0 p2 (ii (n : Int))) (hn : n < ds.length) (h3 : RV csz numc okT nt cl w0 res (ptrAt x n)) : V csz numc okT nt cl w0 (.ix t) [p1, p2] res := by
  intro w ρ oo xs ho hb hvs
  obtain ⟨a, b, hop, rfl⟩ := hd_ix ho
  obtain ⟨v1, _, e1, h4, v2, _, e2, h5, e3⟩ := hvs
  obtain rfl := h1 _ _ h4
  obtain rfl := h2 _ _ h5
  subst e2
  simp only [List.map_cons, List.map_nil, List.cons.injEq] at e1
  obtain ⟨ea, eb, _⟩ := e1
  obtain ⟨ao, cap, rfl, h6, h7, h8⟩ := hx
  obtain ⟨k, off, rfl, hcs, hr⟩ := h8 (by omega)
  refine ⟨_, w, ?_, h3 w, Below.refl _ _⟩
  show (execOp ρ oo).run Tryz.prog w = _
  have hs : (sizeOf (Tryz.prog.elem t)).run Tryz.prog w = .ok 1 w := by rw [he]; exact size_int w
  simp only [execOp, hop, ea, eb, Sem.run_bind, run_indexAt_slice _ _ _ _ _ _ _ ht]
  rw [if_pos (by omega)]
  simp [hs, Result.andThen, Addr.add, ptrAt]
theorem e_ldW (h1 : PV csz numc okT nt cl w0 p1 (ptrAt x n)) (hx : Dg w0 x ds) (hn : n < ds.length) (h3 : RV csz numc okT nt cl w0 res (ii ((ds.getD n 0 : Nat) : Int))) : V csz numc okT nt cl w0 (.ld 3) [p1] res := by
  intro w ρ oo xs ho hb hvs
  obtain ⟨a, hop, rfl⟩ := hd_ld ho
  obtain ⟨v1, _, e1, h4, e2⟩ := hvs
  obtain rfl := h1 _ _ h4
  subst e2
  simp only [List.map_cons, List.map_nil, List.cons.injEq] at e1
  obtain ⟨ea, _⟩ := e1
  obtain ⟨ao, cap, rfl, h6, h7, h8⟩ := hx.below hb (Nat.le_refl _)
  obtain ⟨k, off, rfl, hcs, hr⟩ := h8 (by omega)
  refine ⟨_, w, ?_, h3 w, Below.refl _ _⟩
  show (execOp ρ oo).run Tryz.prog w = _
  simp only [execOp, hop, ea, ptrAt, Instr.loadAt, Instr.sureAddr, Sem.run_bind, Sem.run_pure, Result.andThen_ok, loadVar, agg_int]
  simp [hr n hn]
end
end Sym
end Go.Proofs.YtccabfblgjcboaaGreatDoor

/- The reference's Sum. -/
namespace Go.Proofs.YtccabfblgjcboaaGreatDoor
open Go Go.RowKit Go.Proofs Lim
namespace Sym

abbrev vl_sum (x y z : Value) (ds es : List Nat) (i c : Nat) : List Value := [x, y, z, ii (c : Int), ii (i : Int), ii (ds.length : Int), ii (es.length : Int), ii ((ds.getD i 0 : Nat) : Int), ii ((es.getD i 0 : Nat) : Int), ii ((ds.getD i 0 + es.getD i 0 : Nat) : Int), ii ((ds.getD i 0 + es.getD i 0 + c : Nat) : Int), ii (((ds.getD i 0 + es.getD i 0 + c) % 10000 : Nat) : Int), ii (((ds.getD i 0 + es.getD i 0 + c) / 10000 : Nat) : Int), ii ((i + 1 : Nat) : Int)]
def t_sum (b1 b2 b3 : Bool) : List Ent := [⟨.blt .len [31] 3, [op 0], .val (op 5)⟩, ⟨.blt .len [31] 3, [op 1], .val (op 6)⟩, ⟨.bin .lss 3, [op 4, op 5], .val (vp (.bool b1))⟩, ⟨.bin .lss 3, [op 4, op 6], .val (vp (.bool b2))⟩, ⟨.bin .gtr 3, [op 3, vp (ii 0)], .val (vp (.bool b3))⟩,
  ⟨.call 127, [op 0, op 4], .val (op 7)⟩, ⟨.call 127, [op 1, op 4], .val (op 8)⟩, ⟨.bin .add 3, [op 7, op 8], .val (op 9)⟩, ⟨.bin .add 3, [op 9, op 3], .val (op 10)⟩, ⟨.bin .rem 3, [op 10, vp (ii 10000)], .val (op 11)⟩, ⟨.bin .quo 3, [op 10, vp (ii 10000)], .val (op 12)⟩, ⟨.bin .add 3, [op 4, vp (ii 1)], .val (op 13)⟩]
theorem sum_one {x y z : Value} (hx : x.oneCell' = true) (hy : y.oneCell' = true) (hz : z.oneCell' = true) (ds es : List Nat) (i c : Nat) : ∀ v ∈ vl_sum x y z ds es i c, v.oneCell' = true :=
  one_cons hx (one_cons hy (one_cons hz (one_cons rfl (one_cons rfl (one_cons rfl (one_cons rfl (one_cons rfl (one_cons rfl (one_cons rfl (one_cons rfl (one_cons rfl (one_cons rfl (one_cons rfl one_nil)))))))))))))
theorem sum_T {x y z : Value} {ds es : List Nat} {w : World} (hx : Dg w x ds) (hy : Dg w y es) (hds : Dig ds) (hes : Dig es) {i c : Nat} (hc : c ≤ 1) (hi : i < 1000000000) {b1 b2 b3 : Bool} (h1 : decide (i < ds.length) = b1) (h2 : decide (i < es.length) = b2) (h3 : decide (0 < c) = b3) : ∀ t ∈ t_sum b1 b2 b3, t.Valid (CV 44 (vl_sum x y z ds es i c) w) :=
  have hd := hds i
  have he := hes i
  forall_cons (e_len und_nat (pdW rfl hx) (rvW rfl)) (forall_cons (e_len und_nat (pdW rfl hy) (rvW rfl)) (forall_cons (e_lss (pvW rfl) (pvW rfl) (by rw [← h1]; simp)) (forall_cons (e_lss (pvW rfl) (pvW rfl) (by rw [← h2]; simp)) (forall_cons (e_gtr (pvW rfl) pvl (by rw [← h3]; simp))
    (forall_cons (e_digit (i := i) (pdW rfl hx) (pvW rfl) (rvW rfl)) (forall_cons (e_digit (i := i) (pdW rfl hy) (pvW rfl) (rvW rfl)) (forall_cons (e_add (by omega) (pvW rfl) (pvW rfl) (rvW rfl) (by omega)) (forall_cons (e_add (by omega) (pvW rfl) (pvW rfl) (rvW rfl) (by omega))
      (forall_cons (e_rem (k := .i64) (n := 10000) (pvW rfl) pvl (rvW rfl) (by decide)) (forall_cons (e_quo (k := .i64) (n := 10000) (pvW rfl) pvl (rvW rfl) (by decide) (by rw [IntKind.wrap_i64]; omega)) (forall_cons (e_add (by omega) (pvW rfl) pvl (rvW rfl) (by omega)) forall_nil)))))))))))
noncomputable def b_sum : Code := bodyOf Tryz.f94
noncomputable def l_sum : Code := inner (inner (seqR (seqL (seqR (seqR (seqR b_sum))))))
theorem Dg.one {w : World} {v : Value} {ds : List Nat} (h : Dg w v ds) : v.oneCell' = true := by
  obtain ⟨ao, cap, rfl, _⟩ := h
  rfl
theorem sum_ok (x y : Value) (ds es : List Nat) (w : World) (hx : Dg w x ds) (hy : Dg w y es) (hds : Dig ds) (hes : Dig es) (hl1 : ds.length < 100000000) (hl2 : es.length < 100000000) : Calls Tryz.prog 94 #[x, y] w (fun e w' => ∃ v, e = .returned v ∧ Dg w' v (digs (nat ds + nat es)) ∧ Below w.heap.size w w') := by
  refine calls_v2 (nt := 44) (f := 94) Tryz.func94 (c := .seq (seqL b_sum) (.seq (seqL (seqR b_sum)) (.seq (seqL (seqR (seqR b_sum))) (.seq (.seq (seqL (seqL (seqR (seqR (seqR b_sum))))) (.block 0 (.loop l_sum))) (seqR (seqR (seqR (seqR b_sum)))))))) rfl rfl rfl x y (fun a hs => ?_)
  have one2 : ∀ v ∈ [x, y], v.oneCell' = true := one_cons hx.one (one_cons hy.one one_nil)
  refine wp_seq (seg_v (T := []) [(0, 0), (1, 1)] [(0, 0), (1, 1)] (n := 30) (x := .normal) one2 forall_nil hs (by kernel_rfl) rfl rfl (fun a1 w1 hs hb1 => ?_))
  refine wp_seq ?_
  show (Code.region 1 [_, _].toArray false).wp Tryz.prog _ _ _
  refine empty_v [(0, 0), (1, 1)] (d := 9) (t := 5) hs rfl rfl rfl rfl rfl rfl rfl rfl rfl rfl (B := w.heap.size) hb1.size (fun z a2 w2 hz hown hs hb2 => ?_)
  have hb2 := hb1.trans (hb2.mono hb1.size)
  have hs : St' 44 [x, y, z] [(5, 2), (0, 0), (1, 1)] a2 := ⟨hs.defers, hs.size, hz, hs.sl⟩
  have one3 : ∀ v ∈ [x, y, z], v.oneCell' = true := one_cons hx.one (one_cons hy.one (one_cons hown.one one_nil))
  refine wp_seq (seg_vl (T := []) [(5, 2), (0, 0), (1, 1)] [(5, 2), (0, 0), (1, 1)] [(6, ii 0)] (n := 30) (x := .normal) one3 forall_nil hs (by kernel_rfl) rfl rfl (fun a3 w3 hs hl6 hb3 => ?_))
  have hs : St' 44 [x, y, z, ii 0] [(5, 2), (0, 0), (1, 1), (6, 3)] a3 := ⟨hs.defers, hs.size, hs.sl.1, hs.sl.2.1, hs.sl.2.2.1, hl6.1, trivial⟩
  have one4 : ∀ v ∈ [x, y, z, ii 0], v.oneCell' = true := one_cons hx.one (one_cons hy.one (one_cons hown.one (one_cons rfl one_nil)))
  refine wp_seq (wp_seq (seg_vl (T := []) [(5, 2), (0, 0), (1, 1), (6, 3)] [(5, 2), (0, 0), (1, 1), (6, 3)] [(7, ii 0)] (n := 30) (x := .normal) one4 forall_nil hs (by kernel_rfl) rfl rfl (fun a4 w4 hs hl7 hb4 => ?_)))
  have hown := (hown.below hb3).below hb4
  have hb4 := (hb2.trans (hb3.mono hb2.size)).trans (hb4.mono (Nat.le_trans hb2.size hb3.size))
  have hs : St' 44 (vl_sum x y z ds es 0 0) [(0, 0), (1, 1), (5, 2), (6, 3), (7, 4)] a4 := ⟨hs.defers, hs.size, hs.sl.2.1, hs.sl.2.2.1, hs.sl.1, hs.sl.2.2.2.1, hl7.1, trivial⟩
  refine while_is (Θ := Nat × Nat) (fun θ a w1 => ∃ z l, θ.2 ≤ 1 ∧ (θ.1 ≤ max ds.length es.length ∨ θ.1 = max ds.length es.length + 1 ∧ θ.2 = 0) ∧ l.length = θ.1 ∧ (∀ d ∈ l, d < 10000) ∧ nat ds + nat es = nat l + 10000 ^ θ.1 * (nat (ds.drop θ.1) + nat (es.drop θ.1) + θ.2) ∧ St' 44 (vl_sum x y z ds es θ.1 θ.2) [(0, 0), (1, 1), (5, 2), (6, 3), (7, 4)] a ∧ Own w.heap.size w1 z l ∧ Below w.heap.size w w1) (fun θ => 2 * (max ds.length es.length - θ.1) + θ.2) ?_ (0, 0) ⟨z, [], by simp, .inl (Nat.zero_le _), rfl, by simp, by simp [nat], hs, hown, hb4⟩
  rintro ⟨i, c⟩ a w1 ⟨z, l, hc, hi, hll, hdl, hnat, hs, hown, hb⟩
  have hx1 := hx.below hb (Nat.le_refl _)
  have hy1 := hy.below hb (Nat.le_refl _)
  have one := sum_one hx.one hy.one hown.one ds es i c
  have hi' : i < 1000000000 := by
    rcases hi with hi | ⟨hi, _⟩
    · have hi : i ≤ max ds.length es.length := hi
      omega
    · have hi : i = max ds.length es.length + 1 := hi
      omega
  by_cases hend : ¬ i < ds.length ∧ ¬ i < es.length ∧ ¬ 0 < c
  · obtain ⟨e1, e2, e3⟩ := hend
    refine wp_seq (seg_v [(0, 0), (1, 1), (5, 2), (6, 3), (7, 4)] [(5, 2)] (n := 30) (x := .exit 0) one (sum_T (z := z) hx1 hy1 hds hes hc hi' (decide_eq_false e1) (decide_eq_false e2) (decide_eq_false e3)) hs (by kernel_rfl) rfl rfl (fun a5 w5 hs hb5 => ?_))
    have hown := hown.below hb5
    have hb := hb.trans (hb5.mono hb.size)
    have hs : St' 44 [z] [(5, 0)] a5 := ⟨hs.defers, hs.size, hs.sl⟩
    have hC : (mkC [1, 1] [false, false] [] 44 [clW z, clD (strip l)] w5).Ok := mkC_ok (oks_cons (clW_ok hown.one) (oks_cons (clD_ok noT _) oks_nil)) rfl rfl
    have hT : ∀ t ∈ [(⟨.call 123, [op 0], .val (op 1)⟩ : Ent)], t.Valid (mkC [1, 1] [false, false] [] 44 [clW z, clD (strip l)] w5) := forall_cons (e_trim (pdW rfl hown.dg) (rd rfl)) forall_nil
    refine seg_vd (vl := [z]) [(5, 0)] [] (t := 4) (ds := strip l) hC hT hs 1 (fun i hi => ?_) rfl (n := 30) (x := .ret) (by kernel_rfl) rfl rfl (fun a6 w6 v h4 hv hs hb6 => ret_v rfl hs.defers h4 ⟨v, rfl, ?_, hb.trans (hb6.mono hb.size)⟩)
    · have hi : i < 1 := hi
      obtain rfl : i = 0 := by omega
      rfl
    · rw [hnat, nat_drop_end (by omega), nat_drop_end (by omega), show c = 0 by omega]
      simp only [Nat.add_zero, Nat.mul_zero]
      rw [digs_nat hdl]
      exact hv
  · have key : ∀ (Q' : Exit → Act → World → Prop), (∀ a' w', St' 44 (vl_sum x y z ds es i c) [(0, 0), (1, 1), (5, 2), (6, 3), (7, 4)] a' → Below w1.heap.size w1 w' → Q' .normal a' w') → (seqL l_sum).wp Tryz.prog Q' a w1 := by
      intro Q' hQ
      cases h1 : decide (i < ds.length) <;> cases h2 : decide (i < es.length) <;> cases h3 : decide (0 < c)
      · exfalso
        have h1 := of_decide_eq_false h1
        have h2 := of_decide_eq_false h2
        have h3 := of_decide_eq_false h3
        exact hend ⟨h1, h2, h3⟩
      all_goals exact seg_v [(0, 0), (1, 1), (5, 2), (6, 3), (7, 4)] [(0, 0), (1, 1), (5, 2), (6, 3), (7, 4)] (n := 30) (x := .normal) one (sum_T (z := z) hx1 hy1 hds hes hc hi' h1 h2 h3) hs (by kernel_rfl) rfl rfl hQ
    have hdi := hds i
    have hei := hes i
    refine wp_seq (key _ (fun a5 w5 hs hb5 => ?_))
    have hown := hown.below hb5
    have hb := hb.trans (hb5.mono hb.size)
    refine wp_seq (wp_block (wp_seq (seg_v [(0, 0), (1, 1), (5, 2), (6, 3), (7, 4)] [(0, 0), (1, 1), (5, 2), (7, 4), (8, 10)] (n := 30) (x := .normal) one (sum_T (z := z) (hx.below hb (Nat.le_refl _)) (hy.below hb (Nat.le_refl _)) hds hes hc hi' rfl rfl rfl) hs (by kernel_rfl) rfl rfl (fun a6 w6 hs hb6 => ?_))))
    have hown := hown.below hb6
    have hb := hb.trans (hb6.mono hb.size)
    refine wp_seq ?_
    show (Code.region 7 (opsOf (seqL (seqR (inner (seqL (seqR l_sum)))))).toArray false).wp Tryz.prog _ _ _
    refine push_v [(0, 0), (1, 1), (5, 2), (7, 4), (8, 10)] [(0, 0), (1, 1), (7, 4), (8, 10)] 4 (s := 35) (x := 38) (d := 39) (t := 5) (cd := 11) (z := z) (ds := l) (dg := (ds.getD i 0 + es.getD i 0 + c) % 10000) one (sum_T (z := z) (hx.below hb (Nat.le_refl _)) (hy.below hb (Nat.le_refl _)) hds hes hc hi' rfl rfl rfl) hs 2 (by kernel_rfl) rfl rfl rfl rfl rfl rfl rfl rfl rfl rfl rfl rfl rfl rfl rfl hown hb.size (by omega) (fun z' a7 w7 h5 hown hs hb7 => ?_)
    have hb := hb.trans hb7
    have one := sum_one hx.one hy.one hown.one ds es i c
    have hs : St' 44 (vl_sum x y z' ds es i c) [(0, 0), (1, 1), (5, 2), (7, 4), (8, 10)] a7 := ⟨hs.defers, hs.size, hs.sl.1, hs.sl.2.1, h5, hs.sl.2.2⟩
    refine seg_v [(0, 0), (1, 1), (5, 2), (7, 4), (8, 10)] [(0, 0), (1, 1), (5, 2), (6, 12), (7, 4)] (n := 30) (x := .normal) one (sum_T (z := z') (hx.below hb (Nat.le_refl _)) (hy.below hb (Nat.le_refl _)) hds hes hc hi' rfl rfl rfl) hs (by kernel_rfl) rfl rfl (fun a8 w8 hs hb8 => ?_)
    have hown := hown.below hb8
    have hb := hb.trans (hb8.mono hb.size)
    show (seqR (seqR l_sum)).wp Tryz.prog _ _ _
    refine seg_v [(0, 0), (1, 1), (5, 2), (6, 12), (7, 4)] [(0, 0), (1, 1), (5, 2), (6, 12), (7, 13)] (n := 30) (x := .normal) one (sum_T (z := z') (hx.below hb (Nat.le_refl _)) (hy.below hb (Nat.le_refl _)) hds hes hc hi' rfl rfl rfl) hs (by kernel_rfl) rfl rfl (fun a9 w9 hs hb9 => ?_)
    have hown := hown.below hb9
    have hb := hb.trans (hb9.mono hb.size)
    refine ⟨(i + 1, (ds.getD i 0 + es.getD i 0 + c) / 10000), ⟨z', l ++ [(ds.getD i 0 + es.getD i 0 + c) % 10000], ?_, ?_, ?_, ?_, ?_, ⟨hs.defers, hs.size, hs.sl⟩, hown, hb⟩, ?_⟩
    · show (ds.getD i 0 + es.getD i 0 + c) / 10000 ≤ 1
      omega
    · by_cases h : i < ds.length ∨ i < es.length
      · exact .inl (by show i + 1 ≤ _; omega)
      · have e1 : ds.getD i 0 = 0 := by rw [List.getD_eq_getElem?_getD, List.getElem?_eq_none (by omega)]; rfl
        have e2 : es.getD i 0 = 0 := by rw [List.getD_eq_getElem?_getD, List.getElem?_eq_none (by omega)]; rfl
        refine .inr ⟨?_, ?_⟩
        · show i + 1 = _
          omega
        · show (ds.getD i 0 + es.getD i 0 + c) / 10000 = 0
          omega
    · simp [hll]
    · intro d hd
      rcases List.mem_append.1 hd with h | h
      · exact hdl d h
      · have : d = (ds.getD i 0 + es.getD i 0 + c) % 10000 := by simpa using h
        omega
    · rw [hnat, nat_snoc, nat_drop ds i, nat_drop es i, hll]
      simp only
      generalize nat (ds.drop (i + 1)) = da
      generalize nat (es.drop (i + 1)) = ea
      have hs := Nat.mod_add_div (ds.getD i 0 + es.getD i 0 + c) 10000
      generalize (ds.getD i 0 + es.getD i 0 + c) / 10000 = q at hs ⊢
      generalize (ds.getD i 0 + es.getD i 0 + c) % 10000 = r at hs ⊢
      rw [Nat.pow_succ, Nat.mul_assoc (10000 ^ i), Nat.add_assoc (nat l), ← Nat.mul_add]
      congr 2
      omega
    · show 2 * (max ds.length es.length - (i + 1)) + (ds.getD i 0 + es.getD i 0 + c) / 10000 < 2 * (max ds.length es.length - i) + c
      by_cases h : i < ds.length ∨ i < es.length
      · omega
      · have e1 : ds.getD i 0 = 0 := by rw [List.getD_eq_getElem?_getD, List.getElem?_eq_none (by omega)]; rfl
        have e2 : es.getD i 0 = 0 := by rw [List.getD_eq_getElem?_getD, List.getElem?_eq_none (by omega)]; rfl
        omega
end Sym
end Go.Proofs.YtccabfblgjcboaaGreatDoor

/- The reference's Rest. -/
namespace Go.Proofs.YtccabfblgjcboaaGreatDoor
open Go Go.RowKit Go.Proofs Lim
namespace Sym

abbrev vl_rest (x y z : Value) (ds es : List Nat) (i b : Nat) (dd : Nat) : List Value := [x, y, z, ii (b : Int), ii (i : Int), ii (ds.length : Int), ptrAt x i, ii ((ds.getD i 0 : Nat) : Int), ii ((es.getD i 0 : Nat) : Int), ii (((ds.getD i 0 : Nat) : Int) - ((es.getD i 0 : Nat) : Int)), ii (((ds.getD i 0 : Nat) : Int) - ((es.getD i 0 : Nat) : Int) - (b : Int)), ii (dd : Int), ii ((i + 1 : Nat) : Int), ii 0]
def t_rest0 : List Ent := [⟨.blt .len [31] 3, [op 0], .val (op 5)⟩, ⟨.bin .lss 3, [op 4, op 5], .val (vp (.bool false))⟩]
def t_rest (b2 : Bool) : List Ent := [⟨.blt .len [31] 3, [op 0], .val (op 5)⟩, ⟨.bin .lss 3, [op 4, op 5], .val (vp (.bool true))⟩, ⟨.ix 31, [op 0, op 4], .val (op 6)⟩, ⟨.ld 3, [op 6], .val (op 7)⟩, ⟨.call 127, [op 1, op 4], .val (op 8)⟩, ⟨.bin .sub 3, [op 7, op 8], .val (op 9)⟩, ⟨.bin .sub 3, [op 9, op 3], .val (op 10)⟩,
  ⟨.bin .lss 3, [op 10, vp (ii 0)], .val (vp (.bool b2))⟩, ⟨.bin .add 3, [op 4, vp (ii 1)], .val (op 12)⟩]
def t_restB : List Ent := [⟨.bin .add 3, [op 10, vp (ii 10000)], .val (op 11)⟩]
theorem rest_one {x y z : Value} (hx : x.oneCell' = true) (hy : y.oneCell' = true) (hz : z.oneCell' = true) (ds es : List Nat) (i b dd : Nat) : ∀ v ∈ vl_rest x y z ds es i b dd, v.oneCell' = true :=
  one_cons hx (one_cons hy (one_cons hz (one_cons rfl (one_cons rfl (one_cons rfl (one_cons (ptrAt_one _ _) (one_cons rfl (one_cons rfl (one_cons rfl (one_cons rfl (one_cons rfl (one_cons rfl (one_cons rfl one_nil)))))))))))))
theorem rest_T {x y z : Value} {ds es : List Nat} {w : World} (hx : Dg w x ds) (hy : Dg w y es) (hds : Dig ds) (hes : Dig es) {i b dd : Nat} (hb : b ≤ 1) (hi : i < ds.length) (hl : ds.length < 1000000000) {b2 : Bool} (h2 : decide (ds.getD i 0 < es.getD i 0 + b) = b2) : ∀ t ∈ t_rest b2, t.Valid (CV 36 (vl_rest x y z ds es i b dd) w) :=
  have hd := hds i
  have he := hes i
  forall_cons (e_len und_nat (pdW rfl hx) (rvW rfl)) (forall_cons (e_lss (pvW rfl) (pvW rfl) (decide_eq_true (by omega))) (forall_cons (e_ixW und_nat elem_nat (pvW rfl) hx (pvW rfl) hi (rvW rfl)) (forall_cons (e_ldW (pvW rfl) hx hi (rvW rfl)) (forall_cons (e_digit (i := i) (pdW rfl hy) (pvW rfl) (rvW rfl))
    (forall_cons (e_sub rfl (pvW rfl) (pvW rfl) (rvW rfl) (by omega)) (forall_cons (e_sub rfl (pvW rfl) (pvW rfl) (rvW rfl) (by omega)) (forall_cons (e_lss (pvW rfl) pvl (by rw [← h2]; congr 1; apply propext; constructor <;> intro h <;> omega)) (forall_cons (e_add (by omega) (pvW rfl) pvl (rvW rfl) (by omega)) forall_nil))))))))
noncomputable def b_rest : Code := bodyOf Tryz.f95
noncomputable def l_rest : Code := inner (inner (seqR (seqL (seqR (seqR (seqR b_rest))))))
theorem rest_ok (x y : Value) (ds es : List Nat) (w : World) (hx : Dg w x ds) (hy : Dg w y es) (hds : Dig ds) (hes : Dig es) (hl1 : ds.length < 100000000) (hl2 : es.length ≤ ds.length) (hle : nat es ≤ nat ds) : Calls Tryz.prog 95 #[x, y] w (fun e w' => ∃ v, e = .returned v ∧ Dg w' v (digs (nat ds - nat es)) ∧ (∀ k, v.ownBlock = some k → w.heap.size ≤ k) ∧ Below w.heap.size w w') := by
  refine calls_v2 (nt := 36) (f := 95) Tryz.func95 (c := .seq (seqL b_rest) (.seq (seqL (seqR b_rest)) (.seq (seqL (seqR (seqR b_rest))) (.seq (.seq (seqL (seqL (seqR (seqR (seqR b_rest))))) (.block 0 (.loop l_rest))) (seqR (seqR (seqR (seqR b_rest)))))))) rfl rfl rfl x y (fun a hs => ?_)
  have one2 : ∀ v ∈ [x, y], v.oneCell' = true := one_cons hx.one (one_cons hy.one one_nil)
  refine wp_seq (seg_v (T := []) [(0, 0), (1, 1)] [(0, 0), (1, 1)] (n := 30) (x := .normal) one2 forall_nil hs (by kernel_rfl) rfl rfl (fun a1 w1 hs hb1 => ?_))
  refine wp_seq ?_
  show (Code.region 1 [_, _].toArray false).wp Tryz.prog _ _ _
  refine empty_v [(0, 0), (1, 1)] (d := 9) (t := 5) hs rfl rfl rfl rfl rfl rfl rfl rfl rfl rfl (B := w.heap.size) hb1.size (fun z a2 w2 hz hown hs hb2 => ?_)
  have hb2 := hb1.trans (hb2.mono hb1.size)
  have hs : St' 36 [x, y, z] [(5, 2), (0, 0), (1, 1)] a2 := ⟨hs.defers, hs.size, hz, hs.sl⟩
  have one3 : ∀ v ∈ [x, y, z], v.oneCell' = true := one_cons hx.one (one_cons hy.one (one_cons hown.one one_nil))
  refine wp_seq (seg_vl (T := []) [(5, 2), (0, 0), (1, 1)] [(5, 2), (0, 0), (1, 1)] [(6, ii 0)] (n := 30) (x := .normal) one3 forall_nil hs (by kernel_rfl) rfl rfl (fun a3 w3 hs hl6 hb3 => ?_))
  have hs : St' 36 [x, y, z, ii 0] [(5, 2), (0, 0), (1, 1), (6, 3)] a3 := ⟨hs.defers, hs.size, hs.sl.1, hs.sl.2.1, hs.sl.2.2.1, hl6.1, trivial⟩
  have one4 : ∀ v ∈ [x, y, z, ii 0], v.oneCell' = true := one_cons hx.one (one_cons hy.one (one_cons hown.one (one_cons rfl one_nil)))
  refine wp_seq (wp_seq (seg_vl (T := []) [(5, 2), (0, 0), (1, 1), (6, 3)] [(5, 2), (0, 0), (1, 1), (6, 3)] [(7, ii 0)] (n := 30) (x := .normal) one4 forall_nil hs (by kernel_rfl) rfl rfl (fun a4 w4 hs hl7 hb4 => ?_)))
  have hown := (hown.below hb3).below hb4
  have hb4 := (hb2.trans (hb3.mono hb2.size)).trans (hb4.mono (Nat.le_trans hb2.size hb3.size))
  have hs : St' 36 (vl_rest x y z ds es 0 0 0) [(0, 0), (1, 1), (5, 2), (6, 3), (7, 4)] a4 := ⟨hs.defers, hs.size, hs.sl.2.1, hs.sl.2.2.1, hs.sl.1, hs.sl.2.2.2.1, hl7.1, trivial⟩
  refine while_is (Θ := Nat × Nat) (fun θ a w1 => ∃ z l, θ.2 ≤ 1 ∧ θ.1 ≤ ds.length ∧ l.length = θ.1 ∧ (∀ d ∈ l, d < 10000) ∧ nat ds + 10000 ^ θ.1 * (nat (es.drop θ.1) + θ.2) = nat es + nat l + 10000 ^ θ.1 * nat (ds.drop θ.1) ∧ St' 36 (vl_rest x y z ds es θ.1 θ.2 0) [(0, 0), (1, 1), (5, 2), (6, 3), (7, 4)] a ∧ Own w.heap.size w1 z l ∧ Below w.heap.size w w1) (fun θ => ds.length - θ.1) ?_ (0, 0) ⟨z, [], by simp, Nat.zero_le _, rfl, by simp, by simp [nat]; omega, hs, hown, hb4⟩
  rintro ⟨i, b⟩ a w1 ⟨z, l, hc, hi, hll, hdl, hnat, hs, hown, hb⟩
  have hc : b ≤ 1 := hc
  have hll : l.length = i := hll
  have hx1 := hx.below hb (Nat.le_refl _)
  have hy1 := hy.below hb (Nat.le_refl _)
  by_cases hend : ds.length ≤ i
  · have one := rest_one hx.one hy.one hown.one ds es i b 0
    have hT : ∀ t ∈ t_rest0, t.Valid (CV 36 (vl_rest x y z ds es i b 0) w1) := forall_cons (e_len und_nat (pdW rfl hx1) (rvW rfl)) (forall_cons (e_lss (pvW rfl) (pvW rfl) (decide_eq_false (by omega))) forall_nil)
    refine wp_seq (seg_v [(0, 0), (1, 1), (5, 2), (6, 3), (7, 4)] [(5, 2)] (n := 30) (x := .exit 0) one hT hs (by kernel_rfl) rfl rfl (fun a5 w5 hs hb5 => ?_))
    have hown := hown.below hb5
    have hb := hb.trans (hb5.mono hb.size)
    have hs : St' 36 [z] [(5, 0)] a5 := ⟨hs.defers, hs.size, hs.sl⟩
    have hC : (mkC [1, 1] [false, false] [] 36 [clW z, clF w.heap.size (strip l)] w5).Ok := mkC_ok (oks_cons (clW_ok hown.one) (oks_cons (clF_ok noT _ _) oks_nil)) rfl rfl
    have hT : ∀ t ∈ [(⟨.call 123, [op 0], .val (op 1)⟩ : Ent)], t.Valid (mkC [1, 1] [false, false] [] 36 [clW z, clF w.heap.size (strip l)] w5) := forall_cons (e_trimF (pfW rfl hown.dg (fun k hk => (hown.lt k hk).1)) (rf rfl)) forall_nil
    refine seg_vf (vl := [z]) [(5, 0)] [] (t := 4) (ds := strip l) hC hT hs 1 (fun i hi => ?_) rfl (n := 30) (x := .ret) (by kernel_rfl) rfl rfl (fun a6 w6 v h4 hv hfr hs hb6 => ret_v rfl hs.defers h4 ⟨v, rfl, ?_, hfr, hb.trans (hb6.mono hb.size)⟩)
    · have hi : i < 1 := hi
      obtain rfl : i = 0 := by omega
      rfl
    · have hnl := nat_bound hdl
      rw [hll] at hnl
      rw [nat_drop_end (by show es.length ≤ i; omega), nat_drop_end (by show ds.length ≤ i; omega)] at hnat
      have hnat : nat ds + 10000 ^ i * (0 + b) = nat es + nat l + 10000 ^ i * 0 := hnat
      have hb0 : b = 0 := by
        rcases Nat.lt_or_ge b 1 with h | h
        · omega
        · have : b = 1 := by omega
          subst this
          omega
      subst hb0
      rw [show nat ds - nat es = nat l by omega, digs_nat hdl]
      exact hv
  · have hi : i < ds.length := by omega
    have hdi := hds i
    have hei := hes i
    have hl9 : ds.length < 1000000000 := by omega
    refine wp_seq (seg_v [(0, 0), (1, 1), (5, 2), (6, 3), (7, 4)] [(0, 0), (1, 1), (5, 2), (6, 3), (7, 4)] (n := 30) (x := .normal) (rest_one hx.one hy.one hown.one ds es i b 0) (rest_T (z := z) hx1 hy1 hds hes hc hi hl9 rfl) hs (by kernel_rfl) rfl rfl (fun a5 w5 hs hb5 => ?_))
    have hown := hown.below hb5
    have hb := hb.trans (hb5.mono hb.size)
    refine wp_seq (wp_block (wp_seq (seg_v [(0, 0), (1, 1), (5, 2), (6, 3), (7, 4)] [(0, 0), (1, 1), (5, 2), (7, 4), (8, 10)] (n := 30) (x := .normal) (rest_one hx.one hy.one hown.one ds es i b 0) (rest_T (z := z) (hx.below hb (Nat.le_refl _)) (hy.below hb (Nat.le_refl _)) hds hes hc hi hl9 rfl) hs (by kernel_rfl) rfl rfl (fun a6 w6 hs hb6 => ?_))))
    have hown := hown.below hb6
    have hb := hb.trans (hb6.mono hb.size)
    refine wp_seq (seg_vl (T := []) [(0, 0), (1, 1), (5, 2), (7, 4), (8, 10)] [(0, 0), (1, 1), (5, 2), (7, 4), (8, 10)] [(6, ii 0)] (n := 30) (x := .normal) (rest_one hx.one hy.one hown.one ds es i b 0) forall_nil hs (by kernel_rfl) rfl rfl (fun a7 w7 hs hl6 hb7 => ?_))
    have hown := hown.below hb7
    have hb := hb.trans (hb7.mono hb.size)
    have key : ∀ (Q' : Exit → Act → World → Prop), (∀ bn dd a' w', bn ≤ 1 → es.getD i 0 + b + dd = ds.getD i 0 + 10000 * bn → dd < 10000 → St' 36 [x, y, z, ii ((bn : Nat) : Int), ii (i : Int), ii ((dd : Nat) : Int), ii ((i + 1 : Nat) : Int)] [(0, 0), (1, 1), (5, 2), (6, 3), (7, 4), (8, 5)] a' → Below w7.heap.size w7 w' → Q' .normal a' w') → (seqL (seqR (seqR (inner (seqL (seqR l_rest)))))).wp Tryz.prog Q' a7 w7 := by
      intro Q' hQ
      by_cases hneg : ds.getD i 0 < es.getD i 0 + b
      · obtain ⟨dd, hdd⟩ : ∃ dd, es.getD i 0 + b + dd = ds.getD i 0 + 10000 := ⟨ds.getD i 0 + 10000 - (es.getD i 0 + b), by omega⟩
        have hs : St' 36 (vl_rest x y z ds es i b dd) [(0, 0), (1, 1), (5, 2), (7, 4), (8, 10)] a7 := ⟨hs.defers, hs.size, hs.sl⟩
        have hT : ∀ t ∈ t_restB ++ t_rest true, t.Valid (CV 36 (vl_rest x y z ds es i b dd) w7) := by
          intro t ht
          rcases List.mem_append.1 ht with h | h
          · exact (forall_cons (P := fun t => Ent.Valid (CV 36 (vl_rest x y z ds es i b dd) w7) t) (e_add (u := (dd : Int)) (by omega) (pvW rfl) pvl (rvW rfl) (by omega)) forall_nil) t h
          · exact rest_T (z := z) (hx.below hb (Nat.le_refl _)) (hy.below hb (Nat.le_refl _)) hds hes hc hi hl9 (decide_eq_true hneg) t h
        refine seg_vl [(0, 0), (1, 1), (5, 2), (7, 4), (8, 10)] [(0, 0), (1, 1), (5, 2), (7, 4), (8, 11)] [(6, ii 1)] (n := 30) (x := .normal) (rest_one hx.one hy.one hown.one ds es i b dd) hT hs (by kernel_rfl) rfl rfl (fun a8 w8 hs hl6 hb8 => ?_)
        exact hQ 1 dd a8 w8 (by omega) (by omega) (by omega) ⟨hs.defers, hs.size, hs.sl.1, hs.sl.2.1, hs.sl.2.2.1, hl6.1, hs.sl.2.2.2.1, hs.sl.2.2.2.2.1, trivial⟩ hb8
      · obtain ⟨dd, hdd⟩ : ∃ dd, es.getD i 0 + b + dd = ds.getD i 0 := ⟨ds.getD i 0 - (es.getD i 0 + b), by omega⟩
        have hs : St' 36 (vl_rest x y z ds es i b dd) [(0, 0), (1, 1), (5, 2), (7, 4), (8, 10), (6, 13)] a7 := ⟨hs.defers, hs.size, hs.sl.1, hs.sl.2.1, hs.sl.2.2.1, hs.sl.2.2.2.1, hs.sl.2.2.2.2.1, hl6.1, trivial⟩
        refine seg_v [(0, 0), (1, 1), (5, 2), (7, 4), (8, 10), (6, 13)] [(0, 0), (1, 1), (5, 2), (7, 4), (8, 10), (6, 13)] (n := 30) (x := .normal) (rest_one hx.one hy.one hown.one ds es i b dd) (rest_T (z := z) (hx.below hb (Nat.le_refl _)) (hy.below hb (Nat.le_refl _)) hds hes hc hi hl9 (decide_eq_false hneg)) hs (by kernel_rfl) rfl rfl (fun a8 w8 hs hb8 => ?_)
        have h8 : a8.tmps[8]? = some (ii (dd : Int)) := by
          have : a8.tmps[8]? = some (ii (((ds.getD i 0 : Nat) : Int) - ((es.getD i 0 : Nat) : Int) - (b : Int))) := hs.sl.2.2.2.2.1
          rw [this, show ((ds.getD i 0 : Nat) : Int) - ((es.getD i 0 : Nat) : Int) - (b : Int) = (dd : Int) by omega]
        exact hQ 0 dd a8 w8 (by omega) (by omega) (by omega) ⟨hs.defers, hs.size, hs.sl.1, hs.sl.2.1, hs.sl.2.2.1, hs.sl.2.2.2.2.2.1, hs.sl.2.2.2.1, h8, trivial⟩ hb8
    refine wp_seq (key _ (fun bn dd a8 w8 hbn hdd hdl9 hs hb8 => ?_))
    have hown := hown.below hb8
    have hb := hb.trans (hb8.mono hb.size)
    have one : ∀ z : Value, z.oneCell' = true → ∀ v ∈ [x, y, z, ii ((bn : Nat) : Int), ii (i : Int), ii ((dd : Nat) : Int), ii ((i + 1 : Nat) : Int)], v.oneCell' = true := fun z hz => one_cons hx.one (one_cons hy.one (one_cons hz (one_cons rfl (one_cons rfl (one_cons rfl (one_cons rfl one_nil))))))
    show (Code.region 10 (opsOf (seqR (seqR (seqR (inner (seqL (seqR l_rest))))))).toArray false).wp Tryz.prog _ _ _
    refine push_v (T := []) [(0, 0), (1, 1), (5, 2), (6, 3), (7, 4), (8, 5)] [(0, 0), (1, 1), (6, 3), (7, 4)] 3 (s := 30) (x := 32) (d := 33) (t := 5) (cd := 5) (z := z) (ds := l) (dg := dd) (one z hown.one) forall_nil hs 2 (by kernel_rfl) rfl rfl rfl rfl rfl rfl rfl rfl rfl rfl rfl rfl rfl rfl rfl hown hb.size (by omega) (fun z' a9 w9 h5 hown hs hb9 => ?_)
    have hb := hb.trans hb9
    have hs : St' 36 [x, y, z', ii ((bn : Nat) : Int), ii (i : Int), ii ((dd : Nat) : Int), ii ((i + 1 : Nat) : Int)] [(0, 0), (1, 1), (5, 2), (6, 3), (7, 4)] a9 := ⟨hs.defers, hs.size, hs.sl.1, hs.sl.2.1, h5, hs.sl.2.2⟩
    show (seqR (seqR l_rest)).wp Tryz.prog _ _ _
    have hT : ∀ t ∈ [(⟨.bin .add 3, [op 4, vp (ii 1)], .val (op 6)⟩ : Ent)], t.Valid (CV 36 [x, y, z', ii ((bn : Nat) : Int), ii (i : Int), ii ((dd : Nat) : Int), ii ((i + 1 : Nat) : Int)] w9) := forall_cons (e_add (by omega) (pvW rfl) pvl (rvW rfl) (by omega)) forall_nil
    refine seg_v [(0, 0), (1, 1), (5, 2), (6, 3), (7, 4)] [(0, 0), (1, 1), (5, 2), (6, 3), (7, 6)] (n := 30) (x := .normal) (one z' hown.one) hT hs (by kernel_rfl) rfl rfl (fun a10 w10 hs hb10 => ?_)
    have hown := hown.below hb10
    have hb := hb.trans (hb10.mono hb.size)
    refine ⟨(i + 1, bn), ⟨z', l ++ [dd], hbn, ?_, ?_, ?_, ?_, ⟨hs.defers, hs.size, hs.sl⟩, hown, hb⟩, ?_⟩
    · show i + 1 ≤ ds.length
      omega
    · simp [hll]
    · intro d hd
      rcases List.mem_append.1 hd with h | h
      · exact hdl d h
      · have : d = dd := by simpa using h
        omega
    · have hnat : nat ds + 10000 ^ i * (nat (es.drop i) + b) = nat es + nat l + 10000 ^ i * nat (ds.drop i) := hnat
      show nat ds + 10000 ^ (i + 1) * (nat (es.drop (i + 1)) + bn) = nat es + nat (l ++ [dd]) + 10000 ^ (i + 1) * nat (ds.drop (i + 1))
      rw [nat_drop ds i, nat_drop es i] at hnat
      rw [nat_snoc, hll]
      generalize nat (ds.drop (i + 1)) = da at hnat ⊢
      generalize nat (es.drop (i + 1)) = ea at hnat ⊢
      have e1 : 10000 ^ i * (es.getD i 0 + 10000 * ea + b) + 10000 ^ i * dd = 10000 ^ i * ds.getD i 0 + 10000 ^ (i + 1) * (ea + bn) := by
        rw [Nat.pow_succ, Nat.mul_assoc, ← Nat.mul_add, ← Nat.mul_add]
        congr 1
        omega
      have e2 : 10000 ^ i * (ds.getD i 0 + 10000 * da) = 10000 ^ i * ds.getD i 0 + 10000 ^ (i + 1) * da := by
        rw [Nat.pow_succ, Nat.mul_assoc, ← Nat.mul_add]
      omega
    · show ds.length - (i + 1) < ds.length - i
      omega
end Sym
end Go.Proofs.YtccabfblgjcboaaGreatDoor

/- Lists that are made, and written. -/
namespace Go.Proofs.YtccabfblgjcboaaGreatDoor
open Go Go.RowKit Go.Proofs Lim
namespace Sym
section
variable {nt : Nat} {vl : List Value} {w : World} {a : Act} {T : List Ent} {Q : Exit → Act → World → Prop}
theorem info_int : ∃ i, Tryz.prog.info? 3 = some i ∧ i.zero = some (ii 0) ∧ i.size = 1 ∧ i.bytes = 8 := by
  have h : (Tryz.prog.info? 3).map (fun i => (i.zero, i.size, i.bytes)) = some (some (ii 0), 1, 8) := by kernel_rfl
  obtain ⟨i, h1, h2⟩ := Option.map_eq_some_iff.1 h
  simp only [Prod.mk.injEq] at h2
  exact ⟨i, h1, h2.1, h2.2.1, h2.2.2⟩
/-- **A list of zeros is made**: a region whose last two operations make it, and assign. -/
theorem make_v (pre post : List (Nat × Nat)) {id : Nat} {l : List Oper} (i : Nat) {om os : Oper} {s d t B n : Nat} (h1 : ∀ v ∈ vl, v.oneCell' = true) (hT : ∀ t ∈ T, t.Valid (CV nt vl w)) (hs : St' nt vl pre a) (cs : Nat)
    (h : opsB (CV nt vl w).toStat T (l.take i) (itemsOf pre) (itemsOf ((s, cs) :: post)) = true) (hl : l.drop i = [om, os]) (hg : om.guard = none) (hg' : os.guard = none)
    (ho : om.op = .makeSlice 31 (.tmp s) (.tmp s)) (hd : om.dst = some d) (ho' : os.op = .assign (.tmp d)) (hd' : os.dst = some t)
    (hcs : vl[cs]? = some (ii (n : Int))) (hlim : Nat.blt d nt = true) (hlim' : Nat.blt t nt = true) (hap : apartFrom post d = true) (hap' : apartFrom post t = true)
    (hi : inVl pre vl.length = true) (hi' : inVl ((s, cs) :: post) vl.length = true) (hB : B ≤ w.heap.size) (hn : n < 1000000000)
    (hQ : ∀ z' a' w', a'.tmps[t]? = some z' → Own B w' z' (List.replicate n 0) → St' nt vl post a' → Below B w w' → Q .normal a' w') : (Code.region id l.toArray false).wp Tryz.prog Q a w := by
  refine wp_region_lit ?_
  rw [show wpList Tryz.prog l.toArray Q l a w = wpList Tryz.prog l.toArray Q (l.take i ++ l.drop i) a w by rw [List.take_append_drop], hl]
  refine ops_is (CV_ok h1) hT h (hs.at hi) (fun a2 w2 hA => ?_)
  have hit := hA.items
  rw [← List.append_nil (itemsOf ((s, cs) :: post))] at hit
  obtain ⟨⟨sz, hsl⟩, _⟩ := items_sl hi' hit
  have sz : a2.tmps[s]? = some (ii (n : Int)) := by rw [sz, List.getD, hcs]; rfl
  have hB2 : B ≤ w2.heap.size := Nat.le_trans hB hA.below.size
  have hev : a2.eval (.tmp s) = ii (n : Int) := by simp [Act.eval, Array.getD_eq_getD_getElem?, sz]
  obtain ⟨inf, q1, q2, q3, q4⟩ := info_int
  refine wpList_make_full w2 hg (.tmp s) (.tmp s) 31 ho B 3 inf (ii 0) 1 (by kernel_rfl) q1 q2 q3 .i64 .i64 n n n hev hev rfl rfl (by rw [q4]; omega) (by simp only [maxLen]; omega) hB2 (fun w3 hown hgr => ?_)
  generalize Value.slice (some ⟨w2.heap.size, 0, none⟩) n n = z' at hown ⊢
  rw [hd]
  refine wpList_plain hg' (fun K hK => ?_)
  have hsz : d < a2.tmps.size := by
    have : d < nt := by simpa using hlim
    rw [hA.size]; exact this
  have hst : t < (a2.put (some d) z').tmps.size := by
    have : t < nt := by simpa using hlim'
    rw [put_size, hA.size]; exact this
  have hev : (a2.put (some d) z').eval (.tmp d) = z' := by simp [Act.eval, Array.getD_eq_getD_getElem?, put_self hsz]
  have hw : (execOp (a2.put (some d) z').eval os).run (CV nt vl w).P w3 = .ok (.value z') w3 := by simp only [execOp, ho', hev]; rfl
  refine wp_of_value hw (hK _ _ ?_)
  rw [hd']
  have hown' : Own B w3 z' (List.replicate n 0) := by
    have e : (madeCells (ii 0).cells (n * 1)).toList = (List.replicate n 0).map (fun d : Nat => ii (d : Int)) := by
      rw [Nat.mul_one, List.map_replicate]
      exact toList_madeCells_one _ n
    rw [e] at hown
    show w3.ownsRow B _ 1 z' (List.replicate n 0).length _
    rw [List.length_replicate]
    exact hown
  refine hQ z' _ w3 (put_self hst) hown' ⟨(put_defers _ _ _).trans ((put_defers _ _ _).trans hA.defers), (put_size _ _ _).trans ((put_size _ _ _).trans hA.size), Sl.put hap' (Sl.put hap hsl)⟩ ?_
  exact (hA.below.mono hB).trans ⟨hgr.os, hgr.tape, hgr.output, hgr.size, fun i hi => hgr.block i (by omega) (by simp)⟩
theorem Dg.grown {w w' : World} {row : Option Nat} {v : Value} {ds : List Nat} (h : Dg w v ds) (hg : w.grownBy w' row) (hne : ∀ k, v.ownBlock = some k → some k ≠ row) : Dg w' v ds := by
  obtain ⟨ao, cap, rfl, h1, h2, h3⟩ := h
  refine ⟨ao, cap, rfl, h1, h2, fun hn => ?_⟩
  obtain ⟨b, off, rfl, ⟨cs, fr, hc⟩, hr⟩ := h3 hn
  have hb : w'.heap[b]? = w.heap[b]? := hg.block b (Array.getElem?_eq_some_iff.1 hc).1 (hne b rfl)
  exact ⟨b, off, rfl, ⟨cs, fr, hb.trans hc⟩, fun i hi => (World.cell?_of_block (a := ⟨b, off + i, none⟩) hb).trans (hr i hi)⟩
/-- **An element is written**: a region whose last operation does so. -/
theorem store_v (pre post : List (Nat × Nat)) {id : Nat} {l : List Oper} (i : Nat) {os : Oper} {s t B cp cv : Nat} {z : Value} {ds : List Nat} {j d : Nat} (h1 : ∀ v ∈ vl, v.oneCell' = true) (hT : ∀ t ∈ T, t.Valid (CV nt vl w)) (hs : St' nt vl pre a)
    (h : opsB (CV nt vl w).toStat T (l.take i) (itemsOf pre) (itemsOf ((s, cp) :: (t, cv) :: post)) = true) (hl : l.drop i = [os]) (hg : os.guard = none)
    (ho : os.op = .store 3 (.tmp s) (.tmp t)) (hd : os.dst = none)
    (hcp : vl[cp]? = some (ptrAt z j)) (hcv : vl[cv]? = some (ii (d : Int)))
    (hi : inVl pre vl.length = true) (hi' : inVl ((s, cp) :: (t, cv) :: post) vl.length = true) (hown : Own B w z ds) (hB : B ≤ w.heap.size) (hj : j < ds.length)
    (hQ : ∀ a' w', Own B w' z (ds.set j d) → St' nt vl post a' → Below B w w' → (∀ v rs, Dg w v rs → (∀ k, v.ownBlock = some k → some k ≠ z.ownBlock) → Dg w' v rs) → Q .normal a' w') : (Code.region id l.toArray false).wp Tryz.prog Q a w := by
  refine wp_region_lit ?_
  rw [show wpList Tryz.prog l.toArray Q l a w = wpList Tryz.prog l.toArray Q (l.take i ++ l.drop i) a w by rw [List.take_append_drop], hl]
  refine ops_is (CV_ok h1) hT h (hs.at hi) (fun a2 w2 hA => ?_)
  have hit := hA.items
  rw [← List.append_nil (itemsOf ((s, cp) :: (t, cv) :: post))] at hit
  obtain ⟨⟨ss, st, hsl⟩, _⟩ := items_sl hi' hit
  have hown := hown.below hA.below
  have hown0 := hown
  rcases hown.2 with ⟨rfl, h3⟩ | ⟨g, cap, cur, rfl, hb, hgc, hn, hc, hsz, ht⟩
  · omega
  have ss : a2.eval (.tmp s) = .pointer (some ⟨g, j, none⟩) := by
    have : a2.tmps[s]? = some (ptrAt (.slice (some ⟨g, 0, none⟩) ds.length cap) j) := by rw [ss, List.getD, hcp]; rfl
    rw [show ptrAt (.slice (some ⟨g, 0, none⟩) ds.length cap) j = .pointer (some ⟨g, 0 + j, none⟩) from rfl, Nat.zero_add] at this
    simp [Act.eval, Array.getD_eq_getD_getElem?, this]
  have st : a2.eval (.tmp t) = ii (d : Int) := by
    have : a2.tmps[t]? = some (ii (d : Int)) := by rw [st, List.getD, hcv]; rfl
    simp [Act.eval, Array.getD_eq_getD_getElem?, this]
  obtain ⟨h5, hgr⟩ := hown0.stored j (ii (d : Int))
  refine wpList_plain hg (fun K hK => ?_)
  obtain ⟨u, hu⟩ : ∃ u, w2.cell? ⟨g, j, none⟩ = some u := by
    have : j < cur.size := by omega
    exact ⟨cur[j], by simp [World.cell?, hgc, this]⟩
  have hz := frozen_of_row w2 g j cur 3 hgc
  have hst : (store (⟨g, j, none⟩ : Addr) (ii (d : Int))).run Tryz.prog w2 = .ok () (w2.setCell ⟨g, j, none⟩ (ii (d : Int))) := by
    rw [run_store_int]
    simp [stored, hu, hz]
  have hadd : (⟨g, j, none⟩ : Addr).add 0 = ⟨g, j, none⟩ := by simp [Addr.add]
  have hsv : (storeVar 3 ⟨g, j, none⟩ (ii (d : Int))).run Tryz.prog w2 = .ok () (w2.setCell ⟨g, j, none⟩ (ii (d : Int))) := by
    have hc1 : (ii (d : Int)).cells = #[ii (d : Int)] := rfl
    simp only [storeVar, Sem.run_bind, size_int, Result.andThen_ok, hc1]
    simp only [List.size_toArray, List.length_cons, List.length_nil, ne_eq, not_true_eq_false, if_false, storeCells, hadd, Sem.run_bind, hst, Result.andThen_ok]
    rfl
  have hw : (execOp a2.eval os).run Tryz.prog w2 = .ok .skip (w2.setCell ⟨g, j, none⟩ (ii (d : Int))) := by simp [execOp, ho, ss, st, Instr.storeAt, Instr.sureAddr, hsv]
  unfold Oper.wp
  have hw : (execOp a2.eval os).run (CV nt vl w).P w2 = .ok .skip (w2.setCell ⟨g, j, none⟩ (ii (d : Int))) := hw
  rw [hw]
  refine hK _ _ ?_
  rw [hd]
  have hgB : B ≤ g := hb
  have hown' : Own B (w2.setCell ⟨g, j, none⟩ (ii (d : Int))) (.slice (some ⟨g, 0, none⟩) ds.length cap) (ds.set j d) := by
    show World.ownsRow _ B _ 1 _ (ds.set j d).length ((ds.set j d).map (fun d : Nat => ii (d : Int)))
    rw [List.length_set, List.map_set]
    exact h5
  exact hQ _ _ hown' ⟨hA.defers, hA.size, hsl⟩ ((hA.below.mono hB).trans ⟨hgr.os, hgr.tape, hgr.output, hgr.size, fun i hi => hgr.block i (Nat.lt_of_lt_of_le hi (Nat.le_trans hB hA.below.size)) (fun e => by injection e with e; omega)⟩) (fun v rs hv hne => (hv.below hA.below (Nat.le_refl _)).grown hgr hne)
end
end Sym
end Go.Proofs.YtccabfblgjcboaaGreatDoor
