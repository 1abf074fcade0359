/- Package exact: Without QTimes QSum QRat QAdd QSign QMinus QCmp. -/
import Derived.Test.YtccabfblgjcboaaGreatDoorV12
import Derived.Test.YtccabfblgjcboaaGreatDoorV16
set_option linter.all false

namespace Go.Proofs.YtccabfblgjcboaaGreatDoor
open Go Go.RowKit Go.Proofs Lim
theorem without_any (v1 v2 : Value) (m n k : Nat) (w : World) (h1 : co w v1 m) (h2 : co w v2 n) (hn : 0 < n) (hm : m < B ^ k) (hk : (k : Int) ≤ 1073741824) :
 Calls Tryz.prog 121 #[v1, v2] w (NatNew w (m / n)) := by
 have HOv := Lib.hid (over_any v1 v2 m n k w h1 h2 hn hm hk)
 have H1 := Lib.hid h1
 by_cases o2 : n = 1
 · have HI := Lib.hid (isOne_yes v2 n w h2 o2)
   subst o2
   obtain ⟨xs, ⟨⟨xa, xc, rfl, _⟩, _⟩, _⟩ := h1
   obtain ⟨ys, ⟨⟨ya, yc, rfl, _⟩, _⟩, _⟩ := h2
   clear hm hn hk HOv
   go_enter Tryz.func121, Tryz.ntmps121
   go_wp2_with fail
   refine HI.out.mono ?_
   rintro e w1 ⟨rfl, rfl⟩
   go_wp2_with fail
   go_ret
   refine ⟨_, rfl, ?_, Below.refl _ _⟩
   rw [Nat.div_one]
   exact H1.out
 · have HI := Lib.hid (isOne_no v2 n w h2 o2)
   obtain ⟨xs, ⟨⟨xa, xc, rfl, _⟩, _⟩, _⟩ := h1
   obtain ⟨ys, ⟨⟨ya, yc, rfl, _⟩, _⟩, _⟩ := h2
   clear hm hn hk o2
   go_enter Tryz.func121, Tryz.ntmps121
   go_wp2_with fail
   refine HI.out.mono ?_
   rintro e w1 ⟨rfl, rfl⟩
   go_wp2_with fail
   refine HOv.out.mono ?_
   rintro e w' ⟨q, r, rfl, hq, hr, hbel⟩
   have HQ := Lib.hid hq
   have HB := Lib.hid hbel
   clear hq hr hbel
   go_wp2_with fail
   go_ret
   exact ⟨q, rfl, HQ.out, HB.out⟩
open Go Go.RowKit Go.Proofs Lim
set_option maxHeartbeats 3200000 in
theorem timesWide_any (v1 v2 : Value) (neg1 neg2 : Bool) (n1 d1 n2 d2 k : Nat) (w : World) (h1 : Num w v1 neg1 n1 d1) (h2 : Num w v2 neg2 n2 d2)
 (hn1 : n1 < B ^ k) (hd1 : d1 < B ^ k) (hn2 : n2 < B ^ k) (hd2 : d2 < B ^ k) (p1 : 0 < d1) (p2 : 0 < d2) (hk : (k : Int) ≤ 1073741824) (hG : Gr w) :
 Calls Tryz.prog 78 #[v1, v2] w (FracPost w (!neg1 == neg2) (n1 / Nat.gcd n1 d2 * (n2 / Nat.gcd n2 d1)) (d1 / Nat.gcd n2 d1 * (d2 / Nat.gcd n1 d2))) := by
 have HP1 := Lib.hid (fun W (hW : Below w.heap.size w W) => parts_any v1 neg1 n1 d1 W (h1.below hW (Nat.le_refl _)))
 have HP2 := Lib.hid (fun W (hW : Below w.heap.size w W) => parts_any v2 neg2 n2 d2 W (h2.below hW (Nat.le_refl _)))
 obtain ⟨a1, b1, q1, rfl, _⟩ := h1.form
 obtain ⟨a2, b2, q2, rfl, _⟩ := h2.form
 have HC1 := Lib.hid (fun x y W (hx : co W x n1) (hy : co W y d2) (hW : Below w.heap.size w W) => common_any x y n1 d2 k W hx hy hn1 hd2 hk (hG.below hW hG.size))
 have HC2 := Lib.hid (fun x y W (hx : co W x n2) (hy : co W y d1) (hW : Below w.heap.size w W) => common_any x y n2 d1 k W hx hy hn2 hd1 hk (hG.below hW hG.size))
 have hg1 : 0 < Nat.gcd n1 d2 := Nat.gcd_pos_of_pos_right _ p2
 have hg2 : 0 < Nat.gcd n2 d1 := Nat.gcd_pos_of_pos_right _ p1
 have hl1 : Nat.gcd n1 d2 ≤ d2 := Nat.gcd_le_right _ p2
 have hl2 : Nat.gcd n2 d1 ≤ d1 := Nat.gcd_le_right _ p1
 generalize Nat.gcd n1 d2 = g1 at *
 generalize Nat.gcd n2 d1 = g2 at *
 have HO1 := Lib.hid (fun x y W (hx : co W x n1) (hy : co W y g1) => without_any x y n1 g1 k W hx hy hg1 hn1 hk)
 have HO2 := Lib.hid (fun x y W (hx : co W x n2) (hy : co W y g2) => without_any x y n2 g2 k W hx hy hg2 hn2 hk)
 have HO3 := Lib.hid (fun x y W (hx : co W x d1) (hy : co W y g2) => without_any x y d1 g2 k W hx hy hg2 hd1 hk)
 have HO4 := Lib.hid (fun x y W (hx : co W x d2) (hy : co W y g1) => without_any x y d2 g1 k W hx hy hg1 hd2 hk)
 have l1 : n1 / g1 < B ^ k := Nat.lt_of_le_of_lt (Nat.div_le_self _ _) hn1
 have l2 : n2 / g2 < B ^ k := Nat.lt_of_le_of_lt (Nat.div_le_self _ _) hn2
 have l3 : d1 / g2 < B ^ k := Nat.lt_of_le_of_lt (Nat.div_le_self _ _) hd1
 have l4 : d2 / g1 < B ^ k := Nat.lt_of_le_of_lt (Nat.div_le_self _ _) hd2
 have hpos : 0 < d1 / g2 * (d2 / g1) := Nat.mul_pos (Nat.div_pos hl2 hg2) (Nat.div_pos hl1 hg1)
 generalize n1 / g1 = m1 at *
 generalize n2 / g2 = m2 at *
 generalize d1 / g2 = e1 at *
 generalize d2 / g1 = e2 at *
 have HT1 := Lib.hid (fun x y W (hx : co W x m1) (hy : co W y m2) => times_any x y m1 m2 k W hx hy l1 l2 hk)
 have HT2 := Lib.hid (fun x y W (hx : co W x e1) (hy : co W y e2) => times_any x y e1 e2 k W hx hy l3 l4 hk)
 have HF := Lib.hid (fun x y W (hx : co W x (m1 * m2)) (hy : co W y (e1 * e2)) => fraction_any (!neg1 == neg2) x y (m1 * m2) (e1 * e2) W hx hy hpos)
 clear h1 h2 hn1 hd1 hn2 hd2 hG hg1 hg2 hl1 hl2 l1 l2 l3 l4 hpos p1 p2
 generalize m1 * m2 = NUM at *
 generalize e1 * e2 = DEN at *
 go_enter Tryz.func78, Tryz.ntmps78
 go_wp2_with fail
 obtain ⟨W0, hW0, hb0, ⟨f0, f1, f2, f3⟩, ⟨g0, g1, g2, g3⟩, hz⟩ := box3 w (.bool neg1) (u a1) (u b1) (.pointer q1) (.bool neg2) (u a2) (u b2) (.pointer q2); rw [← hW0]; clear hW0; have HZ := Lib.hid hz; have HW0 := Lib.hid hb0; have hb0 := Below.refl W0.heap.size W0; clear hz
 refine (HP1.out _ (cf HW0.out hb0)).mono ?_
 rintro e W1 ⟨x1, y1, rfl, hx1, hy1, hb⟩
 (obtain ⟨_, _, _, _⟩ := cq (b := w.heap.size) hb (by assumption) (by assumption) (by assumption) (by assumption); obtain ⟨_, _, _, _⟩ := cq (b := w.heap.size + 1) hb (by assumption) (by assumption) (by assumption) (by assumption))
 obtain ⟨xa1, xl1, xc1, rfl, _⟩ := hx1.form
 obtain ⟨ya1, yl1, yc1, rfl, _⟩ := hy1.form
 have HX1 := Lib.hid hx1
 have HY1 := Lib.hid hy1
 have HA1 := Lib.hid (cf hb0 hb)
 clear hb0 hb hx1 hy1 f0 f1 f2 f3 g0 g1 g2 g3
 go_wp2_with fail
 refine (HP2.out _ (cf HW0.out HA1.out)).mono ?_
 rintro e W2 ⟨x2, y2, rfl, hx2, hy2, hb⟩
 (obtain ⟨_, _, _, _⟩ := cq (b := w.heap.size) hb (by assumption) (by assumption) (by assumption) (by assumption); obtain ⟨_, _, _, _⟩ := cq (b := w.heap.size + 1) hb (by assumption) (by assumption) (by assumption) (by assumption))
 obtain ⟨xa2, xl2, xc2, rfl, _⟩ := hx2.form
 obtain ⟨ya2, yl2, yc2, rfl, _⟩ := hy2.form
 have HX1 := Lib.hid (HX1.out.below hb (Nat.le_refl _))
 have HY1 := Lib.hid (HY1.out.below hb (Nat.le_refl _))
 have HX2 := Lib.hid hx2
 have HY2 := Lib.hid hy2
 have HA2 := Lib.hid (cf HA1.out hb)
 clear hb hx2 hy2 HA1
 have HA := HA2
 clear HA2
 go_wp2_with fail
 refine (HC1.out _ _ _ HX1.out HY2.out (cf HW0.out HA.out)).mono ?_
 rintro e W3 ⟨g, rfl, hv, hb⟩
 (obtain ⟨_, _, _, _⟩ := cq (b := w.heap.size) hb (by assumption) (by assumption) (by assumption) (by assumption); obtain ⟨_, _, _, _⟩ := cq (b := w.heap.size + 1) hb (by assumption) (by assumption) (by assumption) (by assumption))
 obtain ⟨_, _, _, rfl, _⟩ := hv.form
 have HX1 := Lib.hid (HX1.out.below hb (Nat.le_refl _))
 have HY1 := Lib.hid (HY1.out.below hb (Nat.le_refl _))
 have HX2 := Lib.hid (HX2.out.below hb (Nat.le_refl _))
 have HY2 := Lib.hid (HY2.out.below hb (Nat.le_refl _))
 have H_g := Lib.hid hv
 have HA := Lib.hid (cf HA.out hb)
 clear hb hv
 go_wp2_with fail
 refine (HC2.out _ _ _ HX2.out HY1.out (cf HW0.out HA.out)).mono ?_
 rintro e W4 ⟨h, rfl, hv, hb⟩
 (obtain ⟨_, _, _, _⟩ := cq (b := w.heap.size) hb (by assumption) (by assumption) (by assumption) (by assumption); obtain ⟨_, _, _, _⟩ := cq (b := w.heap.size + 1) hb (by assumption) (by assumption) (by assumption) (by assumption))
 obtain ⟨_, _, _, rfl, _⟩ := hv.form
 have HX1 := Lib.hid (HX1.out.below hb (Nat.le_refl _))
 have HY1 := Lib.hid (HY1.out.below hb (Nat.le_refl _))
 have HX2 := Lib.hid (HX2.out.below hb (Nat.le_refl _))
 have HY2 := Lib.hid (HY2.out.below hb (Nat.le_refl _))
 have H_g := Lib.hid (H_g.out.below hb (Nat.le_refl _))
 have H_h := Lib.hid hv
 have HA := Lib.hid (cf HA.out hb)
 clear hb hv
 go_wp2_with fail
 refine (HO1.out _ _ _ HX1.out H_g.out).mono ?_
 rintro e W5 ⟨r, rfl, hv, hb⟩
 (obtain ⟨_, _, _, _⟩ := cq (b := w.heap.size) hb (by assumption) (by assumption) (by assumption) (by assumption); obtain ⟨_, _, _, _⟩ := cq (b := w.heap.size + 1) hb (by assumption) (by assumption) (by assumption) (by assumption))
 obtain ⟨_, _, _, rfl, _⟩ := hv.form
 have HY1 := Lib.hid (HY1.out.below hb (Nat.le_refl _))
 have HX2 := Lib.hid (HX2.out.below hb (Nat.le_refl _))
 have HY2 := Lib.hid (HY2.out.below hb (Nat.le_refl _))
 have H_g := Lib.hid (H_g.out.below hb (Nat.le_refl _))
 have H_h := Lib.hid (H_h.out.below hb (Nat.le_refl _))
 have H_r := Lib.hid hv
 have HA := Lib.hid (cf HA.out hb)
 clear hb hv
 go_wp2_with fail
 refine (HO2.out _ _ _ HX2.out H_h.out).mono ?_
 rintro e W6 ⟨s, rfl, hv, hb⟩
 (obtain ⟨_, _, _, _⟩ := cq (b := w.heap.size) hb (by assumption) (by assumption) (by assumption) (by assumption); obtain ⟨_, _, _, _⟩ := cq (b := w.heap.size + 1) hb (by assumption) (by assumption) (by assumption) (by assumption))
 obtain ⟨_, _, _, rfl, _⟩ := hv.form
 have HY1 := Lib.hid (HY1.out.below hb (Nat.le_refl _))
 have HY2 := Lib.hid (HY2.out.below hb (Nat.le_refl _))
 have H_g := Lib.hid (H_g.out.below hb (Nat.le_refl _))
 have H_h := Lib.hid (H_h.out.below hb (Nat.le_refl _))
 have H_r := Lib.hid (H_r.out.below hb (Nat.le_refl _))
 have H_s := Lib.hid hv
 have HA := Lib.hid (cf HA.out hb)
 clear hb hv
 go_wp2_with fail
 refine (HT1.out _ _ _ H_r.out H_s.out).mono ?_
 rintro e W7 ⟨num, rfl, hv, hb⟩
 (obtain ⟨_, _, _, _⟩ := cq (b := w.heap.size) hb (by assumption) (by assumption) (by assumption) (by assumption); obtain ⟨_, _, _, _⟩ := cq (b := w.heap.size + 1) hb (by assumption) (by assumption) (by assumption) (by assumption))
 obtain ⟨_, _, _, rfl, _⟩ := hv.form
 have HY1 := Lib.hid (HY1.out.below hb (Nat.le_refl _))
 have HY2 := Lib.hid (HY2.out.below hb (Nat.le_refl _))
 have H_g := Lib.hid (H_g.out.below hb (Nat.le_refl _))
 have H_h := Lib.hid (H_h.out.below hb (Nat.le_refl _))
 have H_num := Lib.hid hv
 have HA := Lib.hid (cf HA.out hb)
 clear hb hv
 go_wp2_with fail
 refine (HO3.out _ _ _ HY1.out H_h.out).mono ?_
 rintro e W8 ⟨r, rfl, hv, hb⟩
 (obtain ⟨_, _, _, _⟩ := cq (b := w.heap.size) hb (by assumption) (by assumption) (by assumption) (by assumption); obtain ⟨_, _, _, _⟩ := cq (b := w.heap.size + 1) hb (by assumption) (by assumption) (by assumption) (by assumption))
 obtain ⟨_, _, _, rfl, _⟩ := hv.form
 have HY2 := Lib.hid (HY2.out.below hb (Nat.le_refl _))
 have H_g := Lib.hid (H_g.out.below hb (Nat.le_refl _))
 have H_num := Lib.hid (H_num.out.below hb (Nat.le_refl _))
 have H_r := Lib.hid hv
 have HA := Lib.hid (cf HA.out hb)
 clear hb hv
 go_wp2_with fail
 refine (HO4.out _ _ _ HY2.out H_g.out).mono ?_
 rintro e W9 ⟨s, rfl, hv, hb⟩
 (obtain ⟨_, _, _, _⟩ := cq (b := w.heap.size) hb (by assumption) (by assumption) (by assumption) (by assumption); obtain ⟨_, _, _, _⟩ := cq (b := w.heap.size + 1) hb (by assumption) (by assumption) (by assumption) (by assumption))
 obtain ⟨_, _, _, rfl, _⟩ := hv.form
 have H_num := Lib.hid (H_num.out.below hb (Nat.le_refl _))
 have H_r := Lib.hid (H_r.out.below hb (Nat.le_refl _))
 have H_s := Lib.hid hv
 have HA := Lib.hid (cf HA.out hb)
 clear hb hv
 go_wp2_with fail
 refine (HT2.out _ _ _ H_r.out H_s.out).mono ?_
 rintro e W10 ⟨den, rfl, hv, hb⟩
 (obtain ⟨_, _, _, _⟩ := cq (b := w.heap.size) hb (by assumption) (by assumption) (by assumption) (by assumption); obtain ⟨_, _, _, _⟩ := cq (b := w.heap.size + 1) hb (by assumption) (by assumption) (by assumption) (by assumption))
 obtain ⟨_, _, _, rfl, _⟩ := hv.form
 have H_num := Lib.hid (H_num.out.below hb (Nat.le_refl _))
 have H_den := Lib.hid hv
 have HA := Lib.hid (cf HA.out hb)
 clear hb hv
 go_wp2_with fail
 refine (HF.out _ _ _ H_num.out H_den.out).mono ?_
 rintro e W11 ⟨v, rfl, hN, hb⟩
 (obtain ⟨_, _, _, _⟩ := cq (b := w.heap.size) hb (by assumption) (by assumption) (by assumption) (by assumption); obtain ⟨_, _, _, _⟩ := cq (b := w.heap.size + 1) hb (by assumption) (by assumption) (by assumption) (by assumption))
 have hb3 := cf HA.out hb
 obtain ⟨a, b, p, rfl, _⟩ := hN.form
 have hz := HZ.out.below hb3 (Nat.le_refl _)
 have hfin := FracPost.stored (a0 := .bool ((!neg1 == neg2) && !decide (NUM = 0))) (a1 := u a) (a2 := u b) (a3 := .pointer p) hz hN (cf HW0.out hb3) (by omega)
 have HFin := Lib.hid hfin
 (have hz := HZ.out.below hb3 (Nat.le_refl _); have zf := hz.frozen; obtain ⟨z0, z1, z2, z3⟩ := hz.cells; have zf0 := zf 0; have zf1 := zf 1; have zf2 := zf 2; have zf3 := zf 3; clear zf hz)
 clear hfin hN hb hb3
 generalize ((!neg1 == neg2) && !decide (NUM = 0)) = sg at *
 go_wp2_with fail
 refine bodyPost_ret (v := .agg #[.bool sg, u a, u b, .pointer p]) (by simp [results, Tryz.results78, go_sem, z0, z1, z2, z3]) rfl ?_
 exact HFin.out
open Go Go.RowKit Go.Proofs Lim
theorem addS_lt {a b : Bool} {x y j : Nat} (hx : x < B ^ j) (hy : y < B ^ j) : (addS a x b y).2 < B ^ (j + 1) := by
 have h2 : 2 * B ^ j ≤ B ^ (j + 1) := by
  rw [Nat.pow_succ, Nat.mul_comm]
  exact Nat.mul_le_mul_left _ (by decide)
 have : (addS a x b y).2 ≤ x + y := by
  unfold addS
  split
  · exact Nat.le_refl _
  · split
    · show x - y ≤ x + y; omega
    · show y - x ≤ x + y; omega
 omega
set_option maxHeartbeats 3200000 in
theorem plusWide_any (v1 v2 : Value) (neg1 neg2 : Bool) (n1 d1 n2 d2 k : Nat) (w : World) (h1 : Num w v1 neg1 n1 d1) (h2 : Num w v2 neg2 n2 d2)
 (hn1 : n1 < B ^ k) (hd1 : d1 < B ^ k) (hn2 : n2 < B ^ k) (hd2 : d2 < B ^ k) (p1 : 0 < d1) (p2 : 0 < d2) (hk : ((k + k + 1 : Nat) : Int) ≤ 1073741824) (hG : Gr w) :
 Calls Tryz.prog 92 #[v1, v2] w (FracPost w (sumS neg1 n1 d1 neg2 n2 d2).1 (sumN neg1 n1 d1 neg2 n2 d2) (sumD neg1 n1 d1 neg2 n2 d2)) := by
 have HP1 := Lib.hid (fun W (hW : Below w.heap.size w W) => parts_any v1 neg1 n1 d1 W (h1.below hW (Nat.le_refl _)))
 have HP2 := Lib.hid (fun W (hW : Below w.heap.size w W) => parts_any v2 neg2 n2 d2 W (h2.below hW (Nat.le_refl _)))
 obtain ⟨a1, b1, q1, rfl, _⟩ := h1.form
 obtain ⟨a2, b2, q2, rfl, _⟩ := h2.form
 have hk1 : (k : Int) ≤ 1073741824 := by omega
 have hk2 : ((k + k : Nat) : Int) ≤ 1073741824 := by omega
 have HC1 := Lib.hid (fun x y W (hx : co W x d1) (hy : co W y d2) (hW : Below w.heap.size w W) => common_any x y d1 d2 k W hx hy hd1 hd2 hk1 (hG.below hW hG.size))
 have hg : 0 < Nat.gcd d1 d2 := Nat.gcd_pos_of_pos_right _ p2
 have hgl : Nat.gcd d1 d2 ≤ d1 := Nat.gcd_le_left _ p1
 have hdv : Nat.gcd d1 d2 ∣ d2 := Nat.gcd_dvd_right _ _
 unfold sumN sumD sumX sumS
 generalize Nat.gcd d1 d2 = g at *
 have HO1 := Lib.hid (fun x y W (hx : co W x d1) (hy : co W y g) => without_any x y d1 g k W hx hy hg hd1 hk1)
 have HO2 := Lib.hid (fun x y W (hx : co W x d2) (hy : co W y g) => without_any x y d2 g k W hx hy hg hd2 hk1)
 have l1 : d1 / g < B ^ k := Nat.lt_of_le_of_lt (Nat.div_le_self _ _) hd1
 have l2 : d2 / g < B ^ k := Nat.lt_of_le_of_lt (Nat.div_le_self _ _) hd2
 have hr1 : 0 < d1 / g := Nat.div_pos hgl hg
 generalize d1 / g = r1 at *
 generalize d2 / g = r2 at *
 have HT1 := Lib.hid (fun x y W (hx : co W x n1) (hy : co W y r2) => times_any x y n1 r2 k W hx hy hn1 l2 hk1)
 have HT2 := Lib.hid (fun x y W (hx : co W x n2) (hy : co W y r1) => times_any x y n2 r1 k W hx hy hn2 l1 hk1)
 have m1 : n1 * r2 < B ^ (k + k) := mul_lt_pow hn1 l2
 have m2 : n2 * r1 < B ^ (k + k) := mul_lt_pow hn2 l1
 generalize n1 * r2 = L at *
 generalize n2 * r1 = R at *
 have HAS := Lib.hid (fun x y W (hx : co W x L) (hy : co W y R) => addSigned_any neg1 neg2 x y L R (k + k) W hx hy m1 m2 hk2)
 have hsum := addS_lt (a := neg1) (b := neg2) m1 m2
 generalize (addS neg1 L neg2 R).1 = NEG at *
 generalize (addS neg1 L neg2 R).2 = S at *
 have hgB : g < B ^ (k + k + 1) := Nat.lt_of_le_of_lt hgl (Nat.lt_of_lt_of_le hd1 (Nat.pow_le_pow_right cO (by omega)))
 have HC2 := Lib.hid (fun x y W (hx : co W x S) (hy : co W y g) (hW : Below w.heap.size w W) => common_any x y S g (k + k + 1) W hx hy hsum hgB hk (hG.below hW hG.size))
 have hx0 : 0 < Nat.gcd S g := Nat.gcd_pos_of_pos_right _ hg
 have hxl : Nat.gcd S g ≤ d2 := Nat.le_trans (Nat.gcd_le_right _ hg) (Nat.le_of_dvd p2 hdv)
 generalize Nat.gcd S g = X at *
 have HO3 := Lib.hid (fun x y W (hx : co W x S) (hy : co W y X) => without_any x y S X (k + k + 1) W hx hy hx0 hsum hk)
 have HO4 := Lib.hid (fun x y W (hx : co W x d2) (hy : co W y X) => without_any x y d2 X k W hx hy hx0 hd2 hk1)
 have l4 : d2 / X < B ^ k := Nat.lt_of_le_of_lt (Nat.div_le_self _ _) hd2
 have hpos : 0 < r1 * (d2 / X) := Nat.mul_pos hr1 (Nat.div_pos hxl hx0)
 generalize d2 / X = E at *
 generalize S / X = NUM at *
 have HT3 := Lib.hid (fun x y W (hx : co W x r1) (hy : co W y E) => times_any x y r1 E k W hx hy l1 l4 hk1)
 have HF := Lib.hid (fun x y W (hx : co W x NUM) (hy : co W y (r1 * E)) => fraction_any NEG x y NUM (r1 * E) W hx hy hpos)
 generalize r1 * E = DEN at *
 clear h1 h2 hn1 hd1 hn2 hd2 hG hg hgl hdv l1 l2 hr1 m1 m2 hsum hgB hx0 hxl l4 hpos p1 p2 hk1 hk2
 go_enter Tryz.func92, Tryz.ntmps92
 go_wp2_with fail
 obtain ⟨W0, hW0, hb0, ⟨f0, f1, f2, f3⟩, ⟨g0, g1, g2, g3⟩, hz⟩ := box3 w (.bool neg1) (u a1) (u b1) (.pointer q1) (.bool neg2) (u a2) (u b2) (.pointer q2); rw [← hW0]; clear hW0; have HZ := Lib.hid hz; have HW0 := Lib.hid hb0; have hb0 := Below.refl W0.heap.size W0; clear hz
 refine (HP1.out _ (cf HW0.out hb0)).mono ?_
 rintro e W1 ⟨x1, y1, rfl, hx1, hy1, hb⟩
 (obtain ⟨_, _, _, _⟩ := cq (b := w.heap.size) hb (by assumption) (by assumption) (by assumption) (by assumption); obtain ⟨_, _, _, _⟩ := cq (b := w.heap.size + 1) hb (by assumption) (by assumption) (by assumption) (by assumption))
 obtain ⟨xa1, xl1, xc1, rfl, _⟩ := hx1.form
 obtain ⟨ya1, yl1, yc1, rfl, _⟩ := hy1.form
 have HX1 := Lib.hid hx1
 have HY1 := Lib.hid hy1
 have HA1 := Lib.hid (cf hb0 hb)
 clear hb0 hb hx1 hy1 f0 f1 f2 f3 g0 g1 g2 g3
 go_wp2_with fail
 refine (HP2.out _ (cf HW0.out HA1.out)).mono ?_
 rintro e W2 ⟨x2, y2, rfl, hx2, hy2, hb⟩
 (obtain ⟨_, _, _, _⟩ := cq (b := w.heap.size) hb (by assumption) (by assumption) (by assumption) (by assumption); obtain ⟨_, _, _, _⟩ := cq (b := w.heap.size + 1) hb (by assumption) (by assumption) (by assumption) (by assumption))
 obtain ⟨xa2, xl2, xc2, rfl, _⟩ := hx2.form
 obtain ⟨ya2, yl2, yc2, rfl, _⟩ := hy2.form
 have HX1 := Lib.hid (HX1.out.below hb (Nat.le_refl _))
 have HY1 := Lib.hid (HY1.out.below hb (Nat.le_refl _))
 have HX2 := Lib.hid hx2
 have HY2 := Lib.hid hy2
 have HA2 := Lib.hid (cf HA1.out hb)
 clear hb hx2 hy2 HA1
 have HA := HA2
 clear HA2
 go_wp2_with fail
 refine (HC1.out _ _ _ HY1.out HY2.out (cf HW0.out HA.out)).mono ?_
 rintro e W3 ⟨g, rfl, hv, hb⟩
 (obtain ⟨_, _, _, _⟩ := cq (b := w.heap.size) hb (by assumption) (by assumption) (by assumption) (by assumption); obtain ⟨_, _, _, _⟩ := cq (b := w.heap.size + 1) hb (by assumption) (by assumption) (by assumption) (by assumption))
 obtain ⟨_, _, _, rfl, _⟩ := hv.form
 have HX1 := Lib.hid (HX1.out.below hb (Nat.le_refl _))
 have HY1 := Lib.hid (HY1.out.below hb (Nat.le_refl _))
 have HX2 := Lib.hid (HX2.out.below hb (Nat.le_refl _))
 have HY2 := Lib.hid (HY2.out.below hb (Nat.le_refl _))
 have H_g := Lib.hid hv
 have HA := Lib.hid (cf HA.out hb)
 clear hb hv
 go_wp2_with fail
 refine (HO1.out _ _ _ HY1.out H_g.out).mono ?_
 rintro e W4 ⟨r, rfl, hv, hb⟩
 (obtain ⟨_, _, _, _⟩ := cq (b := w.heap.size) hb (by assumption) (by assumption) (by assumption) (by assumption); obtain ⟨_, _, _, _⟩ := cq (b := w.heap.size + 1) hb (by assumption) (by assumption) (by assumption) (by assumption))
 obtain ⟨_, _, _, rfl, _⟩ := hv.form
 have HX1 := Lib.hid (HX1.out.below hb (Nat.le_refl _))
 have HX2 := Lib.hid (HX2.out.below hb (Nat.le_refl _))
 have HY2 := Lib.hid (HY2.out.below hb (Nat.le_refl _))
 have H_g := Lib.hid (H_g.out.below hb (Nat.le_refl _))
 have H_r := Lib.hid hv
 have HA := Lib.hid (cf HA.out hb)
 clear hb hv
 go_wp2_with fail
 refine (HO2.out _ _ _ HY2.out H_g.out).mono ?_
 rintro e W5 ⟨s, rfl, hv, hb⟩
 (obtain ⟨_, _, _, _⟩ := cq (b := w.heap.size) hb (by assumption) (by assumption) (by assumption) (by assumption); obtain ⟨_, _, _, _⟩ := cq (b := w.heap.size + 1) hb (by assumption) (by assumption) (by assumption) (by assumption))
 obtain ⟨_, _, _, rfl, _⟩ := hv.form
 have HX1 := Lib.hid (HX1.out.below hb (Nat.le_refl _))
 have HX2 := Lib.hid (HX2.out.below hb (Nat.le_refl _))
 have HY2 := Lib.hid (HY2.out.below hb (Nat.le_refl _))
 have H_g := Lib.hid (H_g.out.below hb (Nat.le_refl _))
 have H_r := Lib.hid (H_r.out.below hb (Nat.le_refl _))
 have H_s := Lib.hid hv
 have HA := Lib.hid (cf HA.out hb)
 clear hb hv
 go_wp2_with fail
 go_region_held3 (fun w' => (w'.cell? ⟨w.heap.size, 0, none⟩ = some (.bool neg1) ∧ w'.cell? ⟨w.heap.size, 1, none⟩ = some (u a1) ∧ w'.cell? ⟨w.heap.size, 2, none⟩ = some (u b1) ∧ w'.cell? ⟨w.heap.size, 3, none⟩ = some (.pointer q1)) ∧ (w'.cell? ⟨w.heap.size + 1, 0, none⟩ = some (.bool neg2) ∧ w'.cell? ⟨w.heap.size + 1, 1, none⟩ = some (u a2) ∧ w'.cell? ⟨w.heap.size + 1, 2, none⟩ = some (u b2) ∧ w'.cell? ⟨w.heap.size + 1, 3, none⟩ = some (.pointer q2))) (go_keep) (first | ((with_reducible refine (HT1.out _ _ _ (HX1.out.below (Below.refl _ _).drew (Nat.le_refl _)) (H_s.out.below (Below.refl _ _).drew (Nat.le_refl _))).mono ?_); rintro e W6 ⟨a, rfl, ha, hb⟩; (obtain ⟨_, _, _, _⟩ := cq (b := w.heap.size) hb (by assumption) (by assumption) (by assumption) (by assumption); obtain ⟨_, _, _, _⟩ := cq (b := w.heap.size + 1) hb (by assumption) (by assumption) (by assumption) (by assumption)); obtain ⟨_, _, _, rfl, _⟩ := ha.form) | ((with_reducible refine (HT2.out _ _ _ (HX2.out.below (cI (Below.refl _ _) hb) (Nat.le_refl _)) (H_r.out.below (cI (Below.refl _ _) hb) (Nat.le_refl _))).mono ?_); rintro e W7 ⟨b, rfl, hv, hb'⟩; (obtain ⟨_, _, _, _⟩ := cq (b := w.heap.size) hb' (by assumption) (by assumption) (by assumption) (by assumption); obtain ⟨_, _, _, _⟩ := cq (b := w.heap.size + 1) hb' (by assumption) (by assumption) (by assumption) (by assumption)); obtain ⟨_, _, _, rfl, _⟩ := hv.form) | ((with_reducible refine (HAS.out _ _ _ (ha.below hb' (Nat.le_refl _)) hv).mono ?_); rintro e W8 ⟨t, rfl, ht, hb''⟩; (obtain ⟨_, _, _, _⟩ := cq (b := w.heap.size) hb'' (by assumption) (by assumption) (by assumption) (by assumption); obtain ⟨_, _, _, _⟩ := cq (b := w.heap.size + 1) hb'' (by assumption) (by assumption) (by assumption) (by assumption)); obtain ⟨_, _, _, rfl, _⟩ := ht.form))
 have hbb := cf (cf (cI (Below.refl _ _) hb) hb') hb''
 have HY2 := Lib.hid (HY2.out.below hbb (Nat.le_refl _))
 have H_g := Lib.hid (H_g.out.below hbb (Nat.le_refl _))
 have H_r := Lib.hid (H_r.out.below hbb (Nat.le_refl _))
 have H_t := Lib.hid ht
 have HA := Lib.hid (cf HA.out hbb)
 clear hb hb' hb'' hbb ha hv ht
 go_wp2_with fail
 refine (HC2.out _ _ _ H_t.out H_g.out (cf HW0.out HA.out)).mono ?_
 rintro e W9 ⟨x, rfl, hv, hb⟩
 (obtain ⟨_, _, _, _⟩ := cq (b := w.heap.size) hb (by assumption) (by assumption) (by assumption) (by assumption); obtain ⟨_, _, _, _⟩ := cq (b := w.heap.size + 1) hb (by assumption) (by assumption) (by assumption) (by assumption))
 obtain ⟨_, _, _, rfl, _⟩ := hv.form
 have HY2 := Lib.hid (HY2.out.below hb (Nat.le_refl _))
 have H_r := Lib.hid (H_r.out.below hb (Nat.le_refl _))
 have H_t := Lib.hid (H_t.out.below hb (Nat.le_refl _))
 have H_x := Lib.hid hv
 have HA := Lib.hid (cf HA.out hb)
 clear hb hv
 go_wp2_with fail
 refine (HO3.out _ _ _ H_t.out H_x.out).mono ?_
 rintro e W10 ⟨num, rfl, hv, hb⟩
 (obtain ⟨_, _, _, _⟩ := cq (b := w.heap.size) hb (by assumption) (by assumption) (by assumption) (by assumption); obtain ⟨_, _, _, _⟩ := cq (b := w.heap.size + 1) hb (by assumption) (by assumption) (by assumption) (by assumption))
 obtain ⟨_, _, _, rfl, _⟩ := hv.form
 have HY2 := Lib.hid (HY2.out.below hb (Nat.le_refl _))
 have H_r := Lib.hid (H_r.out.below hb (Nat.le_refl _))
 have H_x := Lib.hid (H_x.out.below hb (Nat.le_refl _))
 have H_num := Lib.hid hv
 have HA := Lib.hid (cf HA.out hb)
 clear hb hv
 go_wp2_with fail
 refine (HO4.out _ _ _ HY2.out H_x.out).mono ?_
 rintro e W11 ⟨q, rfl, hv, hb⟩
 (obtain ⟨_, _, _, _⟩ := cq (b := w.heap.size) hb (by assumption) (by assumption) (by assumption) (by assumption); obtain ⟨_, _, _, _⟩ := cq (b := w.heap.size + 1) hb (by assumption) (by assumption) (by assumption) (by assumption))
 obtain ⟨_, _, _, rfl, _⟩ := hv.form
 have H_r := Lib.hid (H_r.out.below hb (Nat.le_refl _))
 have H_num := Lib.hid (H_num.out.below hb (Nat.le_refl _))
 have H_q := Lib.hid hv
 have HA := Lib.hid (cf HA.out hb)
 clear hb hv
 go_wp2_with fail
 refine (HT3.out _ _ _ H_r.out H_q.out).mono ?_
 rintro e W12 ⟨den, rfl, hv, hb⟩
 (obtain ⟨_, _, _, _⟩ := cq (b := w.heap.size) hb (by assumption) (by assumption) (by assumption) (by assumption); obtain ⟨_, _, _, _⟩ := cq (b := w.heap.size + 1) hb (by assumption) (by assumption) (by assumption) (by assumption))
 obtain ⟨_, _, _, rfl, _⟩ := hv.form
 have H_num := Lib.hid (H_num.out.below hb (Nat.le_refl _))
 have H_den := Lib.hid hv
 have HA := Lib.hid (cf HA.out hb)
 clear hb hv
 go_wp2_with fail
 refine (HF.out _ _ _ H_num.out H_den.out).mono ?_
 rintro e W13 ⟨v, rfl, hN, hb⟩
 (obtain ⟨_, _, _, _⟩ := cq (b := w.heap.size) hb (by assumption) (by assumption) (by assumption) (by assumption); obtain ⟨_, _, _, _⟩ := cq (b := w.heap.size + 1) hb (by assumption) (by assumption) (by assumption) (by assumption))
 have hb3 := cf HA.out hb
 obtain ⟨a, b, p, rfl, _⟩ := hN.form
 have hz := HZ.out.below hb3 (Nat.le_refl _)
 have hfin := FracPost.stored (a0 := .bool (NEG && !decide (NUM = 0))) (a1 := u a) (a2 := u b) (a3 := .pointer p) hz hN (cf HW0.out hb3) (by omega)
 have HFin := Lib.hid hfin
 (have hz := HZ.out.below hb3 (Nat.le_refl _); have zf := hz.frozen; obtain ⟨z0, z1, z2, z3⟩ := hz.cells; have zf0 := zf 0; have zf1 := zf 1; have zf2 := zf 2; have zf3 := zf 3; clear zf hz)
 clear hfin hN hb hb3
 generalize (NEG && !decide (NUM = 0)) = sg at *
 go_wp2_with fail
 refine bodyPost_ret (v := .agg #[.bool sg, u a, u b, .pointer p]) (by simp [results, Tryz.results92, go_sem, z0, z1, z2, z3]) rfl ?_
 exact HFin.out
open Go Go.RowKit Go.Proofs Lim
def sgn (neg : Bool) (n : Nat) : Int := if neg then -(n : Int) else (n : Int)
theorem sgn_abs (neg : Bool) (n : Nat) : (sgn neg n).natAbs = n := by unfold sgn; split <;> omega
theorem sgn_neg (neg : Bool) (n : Nat) : decide (sgn neg n < 0) = (neg && !decide (n = 0)) := by
 unfold sgn
 cases neg
 · simp
 · rw [Bool.eq_iff_iff]
   simp
   omega
theorem sgn_self (i : Int) : sgn (decide (i < 0)) i.natAbs = i := by
 unfold sgn
 by_cases h : i < 0
 · simp only [h, decide_true, if_true]; omega
 · simp only [h, decide_false, Bool.false_eq_true, if_false]; omega
theorem sgn_addS (a b : Bool) (x y : Nat) : sgn (addS a x b y).1 (addS a x b y).2 = sgn a x + sgn b y := by
 unfold addS sgn
 by_cases h : y ≤ x <;> cases a <;> cases b <;> simp [h] <;> omega
theorem rat_eq {r : Rat} {N : Int} {D : Nat} (hD : 0 < D) (hc : N.natAbs.Coprime D) (P : Int) (Q : Nat) (hQ : Q ≠ 0) (hr : r = mkRat P Q) (h : P * D = N * Q) : r.num = N ∧ r.den = D := by
 have hq : r = ⟨N, D, Nat.ne_of_gt hD, hc⟩ := by
  rw [hr, ← Rat.mkRat_self ⟨N, D, Nat.ne_of_gt hD, hc⟩]
  exact (Rat.mkRat_eq_iff hQ (Nat.ne_of_gt hD)).2 h
 subst hq
 exact ⟨rfl, rfl⟩
abbrev neg? (r : Rat) : Bool := decide (r.num < 0)
theorem add_parts (a b : Rat) :
 (a + b).num = sgn (sumS (neg? a) a.num.natAbs a.den (neg? b) b.num.natAbs b.den).1 (sumN (neg? a) a.num.natAbs a.den (neg? b) b.num.natAbs b.den) ∧
  (a + b).den = sumD (neg? a) a.num.natAbs a.den (neg? b) b.num.natAbs b.den := by
 have hg : 0 < Nat.gcd a.den b.den := Nat.gcd_pos_of_pos_right _ b.den_pos
 have haux := Rat.add.aux a b (g := Nat.gcd a.den b.den) rfl rfl rfl
 simp only at haux
 have e1 : a.den / Nat.gcd a.den b.den * Nat.gcd a.den b.den = a.den := Nat.div_mul_cancel (Nat.gcd_dvd_left _ _)
 have e2 : b.den / Nat.gcd a.den b.den * Nat.gcd a.den b.den = b.den := Nat.div_mul_cancel (Nat.gcd_dvd_right _ _)
 have hdvd := Nat.gcd_dvd_right a.den b.den
 have hr1 : 0 < a.den / Nat.gcd a.den b.den := Nat.div_pos (Nat.gcd_le_left _ a.den_pos) hg
 have hsum := sgn_addS (neg? a) (neg? b) (a.num.natAbs * (b.den / Nat.gcd a.den b.den)) (b.num.natAbs * (a.den / Nat.gcd a.den b.den))
 have hm : ∀ (i : Int) (x : Nat), sgn (decide (i < 0)) (i.natAbs * x) = i * x := by
  intro i x
  have := sgn_self i
  unfold sgn at this ⊢
  split
  · rename_i h; rw [if_pos h] at this; rw [Int.natCast_mul, ← Int.neg_mul, this]
  · rename_i h; rw [if_neg h] at this; rw [Int.natCast_mul, this]
 rw [hm, hm] at hsum
 have hb := b.den_pos
 have hnz : a.den * b.den ≠ 0 := Nat.ne_of_gt (Nat.mul_pos a.den_pos b.den_pos)
 have hdef := Rat.add_def' a b
 unfold sumN sumD sumX sumS
 rw [← hsum] at haux
 rw [sgn_abs] at haux
 generalize hSS : addS (neg? a) (a.num.natAbs * (b.den / Nat.gcd a.den b.den)) (neg? b) (b.num.natAbs * (a.den / Nat.gcd a.den b.den)) = S at *
 generalize Nat.gcd a.den b.den = g at *
 generalize a.den / g = r1 at *
 generalize b.den / g = r2 at *
 have hX0 : 0 < Nat.gcd S.2 g := Nat.gcd_pos_of_pos_right _ hg
 have hXb : Nat.gcd S.2 g ∣ b.den := Nat.dvd_trans (Nat.gcd_dvd_right _ _) hdvd
 have hXS : S.2 / Nat.gcd S.2 g * Nat.gcd S.2 g = S.2 := Nat.div_mul_cancel (Nat.gcd_dvd_left _ _)
 have hXE : b.den / Nat.gcd S.2 g * Nat.gcd S.2 g = b.den := Nat.div_mul_cancel hXb
 have hcop : Nat.Coprime (S.2 / Nat.gcd S.2 g) (r1 * (b.den / Nat.gcd S.2 g)) := by
  rw [← Nat.mul_div_assoc _ hXb, haux]
  refine Nat.coprime_div_gcd_div_gcd ?_
  rw [← haux]; exact hX0
 have hE0 : 0 < b.den / Nat.gcd S.2 g := Nat.div_pos (Nat.le_of_dvd hb hXb) hX0
 generalize Nat.gcd S.2 g = X at *
 generalize S.2 / X = N at *
 generalize hE : b.den / X = E at *
 refine rat_eq (Nat.mul_pos hr1 hE0) (by rw [sgn_abs]; exact hcop) _ _ hnz hdef ?_
 have hs : sgn S.1 S.2 = sgn S.1 N * X := by
  unfold sgn
  rw [← hXS]
  split <;> rw [Int.natCast_mul]
  rw [Int.neg_mul]
 rw [hs] at hsum
 generalize sgn S.1 N = NN at *
 generalize a.num = an at *
 generalize b.num = bn at *
 rw [← e1]
 have e2' : ((b.den : Nat) : Int) = (r2 : Int) * g := by rw [← e2]; simp
 have e3' : ((b.den : Nat) : Int) = (E : Int) * X := by rw [← hXE]; simp
 simp only [Int.natCast_mul]
 generalize ((b.den : Nat) : Int) = bd at *
 grind
theorem mul_parts (a b : Rat) :
 (a * b).num = sgn (!neg? a == neg? b) (a.num.natAbs / Nat.gcd a.num.natAbs b.den * (b.num.natAbs / Nat.gcd b.num.natAbs a.den)) ∧
  (a * b).den = a.den / Nat.gcd b.num.natAbs a.den * (b.den / Nat.gcd a.num.natAbs b.den) := by
 have hg1 : 0 < Nat.gcd a.num.natAbs b.den := Nat.gcd_pos_of_pos_right _ b.den_pos
 have hg2 : 0 < Nat.gcd b.num.natAbs a.den := Nat.gcd_pos_of_pos_right _ a.den_pos
 have hc : ((a.num.natAbs / Nat.gcd a.num.natAbs b.den) * (b.num.natAbs / Nat.gcd b.num.natAbs a.den)).Coprime ((a.den / Nat.gcd b.num.natAbs a.den) * (b.den / Nat.gcd a.num.natAbs b.den)) := by
  rw [Nat.coprime_mul_iff_left]
  refine ⟨Nat.coprime_mul_iff_right.2 ⟨?_, ?_⟩, Nat.coprime_mul_iff_right.2 ⟨?_, ?_⟩⟩
  · exact a.reduced.coprime_div_left (Nat.gcd_dvd_left ..) |>.coprime_div_right (Nat.gcd_dvd_right ..)
  · exact Nat.coprime_div_gcd_div_gcd hg1
  · exact Nat.coprime_div_gcd_div_gcd hg2
  · exact b.reduced.coprime_div_left (Nat.gcd_dvd_left ..) |>.coprime_div_right (Nat.gcd_dvd_right ..)
 have e1 : a.num.natAbs / Nat.gcd a.num.natAbs b.den * Nat.gcd a.num.natAbs b.den = a.num.natAbs := Nat.div_mul_cancel (Nat.gcd_dvd_left _ _)
 have e2 : b.num.natAbs / Nat.gcd b.num.natAbs a.den * Nat.gcd b.num.natAbs a.den = b.num.natAbs := Nat.div_mul_cancel (Nat.gcd_dvd_left _ _)
 have e3 : a.den / Nat.gcd b.num.natAbs a.den * Nat.gcd b.num.natAbs a.den = a.den := Nat.div_mul_cancel (Nat.gcd_dvd_right _ _)
 have e4 : b.den / Nat.gcd a.num.natAbs b.den * Nat.gcd a.num.natAbs b.den = b.den := Nat.div_mul_cancel (Nat.gcd_dvd_right _ _)
 have p3 : 0 < a.den / Nat.gcd b.num.natAbs a.den := Nat.div_pos (Nat.gcd_le_right _ a.den_pos) hg2
 have p4 : 0 < b.den / Nat.gcd a.num.natAbs b.den := Nat.div_pos (Nat.gcd_le_right _ b.den_pos) hg1
 have hnz : a.den * b.den ≠ 0 := Nat.ne_of_gt (Nat.mul_pos a.den_pos b.den_pos)
 have hdef := Rat.mul_def' a b
 have ha := sgn_self a.num
 have hb := sgn_self b.num
 generalize Nat.gcd a.num.natAbs b.den = g1 at *
 generalize Nat.gcd b.num.natAbs a.den = g2 at *
 generalize a.num.natAbs / g1 = m1 at *
 generalize b.num.natAbs / g2 = m2 at *
 generalize a.den / g2 = q1 at *
 generalize b.den / g1 = q2 at *
 refine rat_eq (Nat.mul_pos p3 p4) (by rw [sgn_abs]; exact hc) _ _ hnz hdef ?_
 have hs : a.num * b.num = sgn (!neg? a == neg? b) (m1 * m2) * (g1 * g2) := by
  rw [← ha, ← hb, ← e1, ← e2]
  unfold sgn
  by_cases h1 : a.num < 0 <;> by_cases h2 : b.num < 0 <;> simp [h1, h2] <;> grind
 rw [hs, ← e3, ← e4]
 simp only [Int.natCast_mul]
 grind
theorem FracPost.q {w w' : World} {neg : Bool} {n d : Nat} {e : Ending} {r : Rat} (h : FracPost w neg n d e w') (hn : r.num = sgn neg n) (hd : r.den = d) : cX w r e w' := by
 obtain ⟨v, he, hN, hb⟩ := h
 refine ⟨v, he, ?_, hb⟩
 unfold cR
 rw [hn, sgn_abs, sgn_neg]
 have : r.den = if n = 0 then 1 else d := by
  split
  · rename_i h0
    have hz : r.num = 0 := by rw [hn, h0]; unfold sgn; simp
    have := r.reduced
    rw [hz] at this
    simpa using this
  · exact hd
 rw [this]
 exact hN
open Go Go.RowKit Go.Proofs Lim
theorem cX.stored {w W : World} {R : Nat} {v : Value} {r : Rat} {a0 a1 a2 a3 : Value} (hR : Box W R (.bool false) (.int .u64 0) (.int .u64 0) (.pointer none))
 (h : cR W v r) (hb : Below w.heap.size w W) (hw : w.heap.size ≤ R) :
 cX w r (.returned v) ((((W.setCell ⟨R, 0, none⟩ a0).setCell ⟨R, 1, none⟩ a1).setCell ⟨R, 2, none⟩ a2).setCell ⟨R, 3, none⟩ a3) := by
 have ho := ((((cN.refl R W).set 0 a0).set 1 a1).set 2 a2).set 3 a3
 exact ⟨v, rfl, Num.only hR h ho, hb.trans (ho.below hw)⟩
theorem cR.form {w : World} {v : Value} {r : Rat} (h : cR w v r) : ∃ sg a b p, v = .agg #[.bool sg, u a, u b, .pointer p] := by
 obtain ⟨a, b, p, h, _⟩ := Num.form h
 exact ⟨_, a, b, p, h⟩
theorem plusWide_q (v1 v2 : Value) (r s : Rat) (k : Nat) (w : World) (h1 : cR w v1 r) (h2 : cR w v2 s) (z1 : cF r k) (z2 : cF s k) (hk : ((k + k + 1 : Nat) : Int) ≤ 1073741824) (hG : Gr w) :
 Calls Tryz.prog 92 #[v1, v2] w (cX w (r + s)) :=
 (plusWide_any v1 v2 _ _ _ _ _ _ k w h1 h2 z1.1 z1.2 z2.1 z2.2 r.den_pos s.den_pos hk hG).mono fun _ _ h => h.q (add_parts r s).1 (add_parts r s).2
theorem timesWide_q (v1 v2 : Value) (r s : Rat) (k : Nat) (w : World) (h1 : cR w v1 r) (h2 : cR w v2 s) (z1 : cF r k) (z2 : cF s k) (hk : (k : Int) ≤ 1073741824) (hG : Gr w) :
 Calls Tryz.prog 78 #[v1, v2] w (cX w (r * s)) :=
 (timesWide_any v1 v2 _ _ _ _ _ _ k w h1 h2 z1.1 z1.2 z2.1 z2.2 r.den_pos s.den_pos hk hG).mono fun _ _ h => h.q (mul_parts r s).1 (mul_parts r s).2
def SmallQ (w : World) (r : Rat) (e : Ending) (w' : World) : Prop :=
 ∃ a b c, ∃ ok : Bool, e = .returned (.tuple #[lo a b c, .bool ok]) ∧ (ok = true → ∀ W, cR W (lo a b c) r) ∧ Below w.heap.size w w'
theorem SmallPost.q {w w' : World} {neg : Bool} {n d : Nat} {e : Ending} {r : Rat} (h : SmallPost w neg n d e w') (hn : r.num = sgn neg n) (hd : r.den = d) : SmallQ w r e w' := by
 obtain ⟨a, b, c, ok, he, h1, h2, hb⟩ := h
 refine ⟨a, b, c, ok, he, fun hok W => ?_, hb⟩
 obtain ⟨i1, i2⟩ := h2 hok
 obtain ⟨j1, j2, j3⟩ := h1 hok ⟨i1, i2, hd ▸ r.den_pos⟩
 unfold cR
 rw [hn, sgn_abs, sgn_neg, ← j1, hd, ← j2]
 exact Num.low c rfl j3.symm (j2 ▸ i1) i2
theorem cR.forms {w : World} {v : Value} {r : Rat} (h : cR w v r) :
 (∃ l, v = lo (neg? r) r.num.natAbs l ∧ r.den = l + 1 ∧ r.num.natAbs < B ∧ r.den < B) ∨ (∃ b, v = wi (neg? r) ⟨b, 0, none⟩) := by
 cases h with
 | low l hv hd hn hdB => exact .inl ⟨l, hv, hd, hn, hdB⟩
 | wide b x y hv hx hy h1 h2 hB h0 hd => exact .inr ⟨b, hv⟩
theorem plusSmall_q (r s : Rat) (l1 l2 : Nat) (w : World) (d1 : r.den = l1 + 1) (d2 : s.den = l2 + 1) (h1 : r.num.natAbs < B) (h2 : r.den < B) (h3 : s.num.natAbs < B) (h4 : s.den < B) (hG : Gr w) :
 Calls Tryz.prog 91 #[lo (neg? r) r.num.natAbs l1, lo (neg? s) s.num.natAbs l2] w (SmallQ w (r + s)) := by
 refine (plusSmall_any (neg? r) (neg? s) _ l1 _ l2 h1 (d1 ▸ h2) h3 (d2 ▸ h4) w hG).mono fun _ _ h => ?_
 rw [← d1, ← d2] at h
 exact h.q (add_parts r s).1 (add_parts r s).2
theorem timesSmall_q (r s : Rat) (l1 l2 : Nat) (w : World) (d1 : r.den = l1 + 1) (d2 : s.den = l2 + 1) (h1 : r.num.natAbs < B) (h2 : r.den < B) (h3 : s.num.natAbs < B) (h4 : s.den < B) (hG : Gr w) :
 Calls Tryz.prog 96 #[lo (neg? r) r.num.natAbs l1, lo (neg? s) s.num.natAbs l2] w (SmallQ w (r * s)) := by
 refine (timesSmall_any (neg? r) (neg? s) _ l1 _ l2 h1 (d1 ▸ h2) h3 (d2 ▸ h4) w hG).mono fun _ _ h => ?_
 rw [← d1, ← d2] at h
 refine h.q ?_ (mul_parts r s).2
 have := (mul_parts r s).1
 rw [this]
 congr 1
theorem plus_q (v1 v2 : Value) (r s : Rat) (k : Nat) (w : World) (h1 : cR w v1 r) (h2 : cR w v2 s) (z1 : cF r k) (z2 : cF s k) (hk : ((k + k + 1 : Nat) : Int) ≤ 1073741824) (hG : Gr w) :
 Calls Tryz.prog 25 #[v1, v2] w (cX w (r + s)) := by
 have HW := Lib.hid (fun W (hW : Below w.heap.size w W) => plusWide_q v1 v2 r s k W (h1.below hW (Nat.le_refl _)) (h2.below hW (Nat.le_refl _)) z1 z2 hk (hG.below hW hG.size))
 rcases h1.forms with ⟨l1, rfl, d1, i1, j1⟩ | ⟨b1, rfl⟩
 · rcases h2.forms with ⟨l2, rfl, d2, i2, j2⟩ | ⟨b2, rfl⟩
   · have HS := Lib.hid (fun W (hW : Below w.heap.size w W) => plusSmall_q r s l1 l2 W d1 d2 i1 j1 i2 j2 (hG.below hW hG.size))
     clear h1 h2 z1 z2 hk hG d1 d2 j1 j2
     generalize neg? r = neg1 at *
     generalize neg? s = neg2 at *
     generalize r.num.natAbs = n1 at *
     generalize s.num.natAbs = n2 at *
     generalize r + s = t at *
     go_enter Tryz.func25, Tryz.ntmps25
     go_wp2_with fail
     obtain ⟨W0, hW0, hb0, ⟨f0, f1, f2, f3⟩, ⟨g0, g1, g2, g3⟩, hz⟩ := box3 w (.bool neg1) (u n1) (u l1) (.pointer none) (.bool neg2) (u n2) (u l2) (.pointer none); rw [← hW0]; clear hW0; have HZ := Lib.hid hz; have HW0 := Lib.hid hb0; have hb0 := Below.refl W0.heap.size W0; clear hz
     refine (HS.out _ (cf HW0.out hb0)).mono ?_
     rintro e W1 ⟨a, b, c, ok, rfl, hok, hb⟩
     (obtain ⟨_, _, _, _⟩ := cq (b := w.heap.size) hb (by assumption) (by assumption) (by assumption) (by assumption); obtain ⟨_, _, _, _⟩ := cq (b := w.heap.size + 1) hb (by assumption) (by assumption) (by assumption) (by assumption))
     have HA := Lib.hid (cf hb0 hb)
     have HOK := Lib.hid hok
     clear hb0 hb hok f0 f1 f2 f3 g0 g1 g2 g3
     (have hz := HZ.out.below HA.out (Nat.le_refl _); have zf := hz.frozen; obtain ⟨z0, z1, z2, z3⟩ := hz.cells; have zf0 := zf 0; have zf1 := zf 1; have zf2 := zf 2; have zf3 := zf 3; clear zf hz)
     have q0 : w.heap.size < W1.heap.size := World.block_lt_of_cell? W1 ⟨w.heap.size, 0, none⟩ (by assumption)
     have q1 : w.heap.size + 1 < W1.heap.size := World.block_lt_of_cell? W1 ⟨w.heap.size + 1, 0, none⟩ (by assumption)
     have q2 : w.heap.size + 1 + 1 < W1.heap.size := World.block_lt_of_cell? W1 ⟨w.heap.size + 1 + 1, 0, none⟩ z0
     cases ok
     · go_wp2_with fail
       have HA' := Lib.hid (cf HA.out (cu W1 (.cells #[.bool a, .int .u64 (b : Int), .int .u64 (c : Int), .pointer none] 26)))
       clear z0 z1 z2 z3 zf0 zf1 zf2 zf3 q0 q1 q2
       refine (HW.out _ (cf HW0.out HA'.out)).mono ?_
       rintro e W9 ⟨v, rfl, hN, hb⟩
       have hb3 := cf HA'.out hb
       have hN' := hN
       obtain ⟨sg, a9, b9, p9, rfl⟩ := hN'.form
       have hz := HZ.out.below hb3 (Nat.le_refl _)
       have hfin := cX.stored (a0 := .bool sg) (a1 := u a9) (a2 := u b9) (a3 := .pointer p9) hz hN (cf HW0.out hb3) (by omega)
       have HFin := Lib.hid hfin
       (have hz := HZ.out.below hb3 (Nat.le_refl _); have zf := hz.frozen; obtain ⟨z0, z1, z2, z3⟩ := hz.cells; have zf0 := zf 0; have zf1 := zf 1; have zf2 := zf 2; have zf3 := zf 3; clear zf hz)
       clear hfin hN hN' hb hb3
       go_wp2_with fail
       refine bodyPost_ret (v := .agg #[.bool sg, u a9, u b9, .pointer p9]) (by simp [results, Tryz.results25, go_sem, z0, z1, z2, z3]) rfl ?_
       exact HFin.out
     · have hT := HOK.out rfl
       have HT := Lib.hid hT
       clear hT
       go_wp2_with fail
       refine bodyPost_ret (v := lo a b c) (by simp [results, Tryz.results25, go_sem, z0, z1, z2, z3, q2]) rfl ?_
       exact ⟨_, rfl, HT.out _, (js HW0.out HA.out (by omega) _ _ _ _).trans ((cu _ _).mono (js HW0.out HA.out (by omega) _ _ _ _).size)⟩
   · clear h1 h2 z1 z2 hk hG
     generalize neg? r = neg1 at *
     generalize neg? s = neg2 at *
     generalize r.num.natAbs = n1 at *
     generalize r + s = t at *
     clear d1 i1 j1
     go_enter Tryz.func25, Tryz.ntmps25
     go_wp2_with fail
     obtain ⟨W0, hW0, hb0, ⟨f0, f1, f2, f3⟩, ⟨g0, g1, g2, g3⟩, hz⟩ := box3 w (.bool neg1) (u n1) (u l1) (.pointer none) (.bool neg2) (u 0) (u 0) (.pointer (some ⟨b2, 0, none⟩)); rw [← hW0]; clear hW0; have HZ := Lib.hid hz; have HW0 := Lib.hid hb0; have hb0 := Below.refl W0.heap.size W0; clear hz
     refine (HW.out _ (cf HW0.out hb0)).mono ?_
     rintro e W9 ⟨v, rfl, hN, hb⟩
     have hb3 := cf hb0 hb
     have hN' := hN
     obtain ⟨sg, a9, b9, p9, rfl⟩ := hN'.form
     have hz := HZ.out.below hb3 (Nat.le_refl _)
     have hfin := cX.stored (a0 := .bool sg) (a1 := u a9) (a2 := u b9) (a3 := .pointer p9) hz hN (cf HW0.out hb3) (by omega)
     have HFin := Lib.hid hfin
     (have hz := HZ.out.below hb3 (Nat.le_refl _); have zf := hz.frozen; obtain ⟨z0, z1, z2, z3⟩ := hz.cells; have zf0 := zf 0; have zf1 := zf 1; have zf2 := zf 2; have zf3 := zf 3; clear zf hz)
     clear hfin hN hN' hb hb3
     go_wp2_with fail
     refine bodyPost_ret (v := .agg #[.bool sg, u a9, u b9, .pointer p9]) (by simp [results, Tryz.results25, go_sem, z0, z1, z2, z3]) rfl ?_
     exact HFin.out
 · obtain ⟨neg2, a2, b2, p2, rfl⟩ := h2.form
   clear h1 h2 z1 z2 hk hG
   generalize neg? r = neg1 at *
   generalize r + s = t at *
   go_enter Tryz.func25, Tryz.ntmps25
   go_wp2_with fail
   obtain ⟨W0, hW0, hb0, ⟨f0, f1, f2, f3⟩, ⟨g0, g1, g2, g3⟩, hz⟩ := box3 w (.bool neg1) (u 0) (u 0) (.pointer (some ⟨b1, 0, none⟩)) (.bool neg2) (u a2) (u b2) (.pointer p2); rw [← hW0]; clear hW0; have HZ := Lib.hid hz; have HW0 := Lib.hid hb0; have hb0 := Below.refl W0.heap.size W0; clear hz
   refine (HW.out _ (cf HW0.out hb0)).mono ?_
   rintro e W9 ⟨v, rfl, hN, hb⟩
   have hb3 := cf hb0 hb
   have hN' := hN
   obtain ⟨sg, a9, b9, p9, rfl⟩ := hN'.form
   have hz := HZ.out.below hb3 (Nat.le_refl _)
   have hfin := cX.stored (a0 := .bool sg) (a1 := u a9) (a2 := u b9) (a3 := .pointer p9) hz hN (cf HW0.out hb3) (by omega)
   have HFin := Lib.hid hfin
   (have hz := HZ.out.below hb3 (Nat.le_refl _); have zf := hz.frozen; obtain ⟨z0, z1, z2, z3⟩ := hz.cells; have zf0 := zf 0; have zf1 := zf 1; have zf2 := zf 2; have zf3 := zf 3; clear zf hz)
   clear hfin hN hN' hb hb3
   go_wp2_with fail
   refine bodyPost_ret (v := .agg #[.bool sg, u a9, u b9, .pointer p9]) (by simp [results, Tryz.results25, go_sem, z0, z1, z2, z3]) rfl ?_
   exact HFin.out
theorem times_q (v1 v2 : Value) (r s : Rat) (k : Nat) (w : World) (h1 : cR w v1 r) (h2 : cR w v2 s) (z1 : cF r k) (z2 : cF s k) (hk : (k : Int) ≤ 1073741824) (hG : Gr w) :
 Calls Tryz.prog 29 #[v1, v2] w (cX w (r * s)) := by
 have HW := Lib.hid (fun W (hW : Below w.heap.size w W) => timesWide_q v1 v2 r s k W (h1.below hW (Nat.le_refl _)) (h2.below hW (Nat.le_refl _)) z1 z2 hk (hG.below hW hG.size))
 rcases h1.forms with ⟨l1, rfl, d1, i1, j1⟩ | ⟨b1, rfl⟩
 · rcases h2.forms with ⟨l2, rfl, d2, i2, j2⟩ | ⟨b2, rfl⟩
   · have HS := Lib.hid (fun W (hW : Below w.heap.size w W) => timesSmall_q r s l1 l2 W d1 d2 i1 j1 i2 j2 (hG.below hW hG.size))
     clear h1 h2 z1 z2 hk hG d1 d2 j1 j2
     generalize neg? r = neg1 at *
     generalize neg? s = neg2 at *
     generalize r.num.natAbs = n1 at *
     generalize s.num.natAbs = n2 at *
     generalize r * s = t at *
     go_enter Tryz.func29, Tryz.ntmps29
     go_wp2_with fail
     obtain ⟨W0, hW0, hb0, ⟨f0, f1, f2, f3⟩, ⟨g0, g1, g2, g3⟩, hz⟩ := box3 w (.bool neg1) (u n1) (u l1) (.pointer none) (.bool neg2) (u n2) (u l2) (.pointer none); rw [← hW0]; clear hW0; have HZ := Lib.hid hz; have HW0 := Lib.hid hb0; have hb0 := Below.refl W0.heap.size W0; clear hz
     refine (HS.out _ (cf HW0.out hb0)).mono ?_
     rintro e W1 ⟨a, b, c, ok, rfl, hok, hb⟩
     (obtain ⟨_, _, _, _⟩ := cq (b := w.heap.size) hb (by assumption) (by assumption) (by assumption) (by assumption); obtain ⟨_, _, _, _⟩ := cq (b := w.heap.size + 1) hb (by assumption) (by assumption) (by assumption) (by assumption))
     have HA := Lib.hid (cf hb0 hb)
     have HOK := Lib.hid hok
     clear hb0 hb hok f0 f1 f2 f3 g0 g1 g2 g3
     (have hz := HZ.out.below HA.out (Nat.le_refl _); have zf := hz.frozen; obtain ⟨z0, z1, z2, z3⟩ := hz.cells; have zf0 := zf 0; have zf1 := zf 1; have zf2 := zf 2; have zf3 := zf 3; clear zf hz)
     have q0 : w.heap.size < W1.heap.size := World.block_lt_of_cell? W1 ⟨w.heap.size, 0, none⟩ (by assumption)
     have q1 : w.heap.size + 1 < W1.heap.size := World.block_lt_of_cell? W1 ⟨w.heap.size + 1, 0, none⟩ (by assumption)
     have q2 : w.heap.size + 1 + 1 < W1.heap.size := World.block_lt_of_cell? W1 ⟨w.heap.size + 1 + 1, 0, none⟩ z0
     cases ok
     · go_wp2_with fail
       have HA' := Lib.hid (cf HA.out (cu W1 (.cells #[.bool a, .int .u64 (b : Int), .int .u64 (c : Int), .pointer none] 26)))
       clear z0 z1 z2 z3 zf0 zf1 zf2 zf3 q0 q1 q2
       refine (HW.out _ (cf HW0.out HA'.out)).mono ?_
       rintro e W9 ⟨v, rfl, hN, hb⟩
       have hb3 := cf HA'.out hb
       have hN' := hN
       obtain ⟨sg, a9, b9, p9, rfl⟩ := hN'.form
       have hz := HZ.out.below hb3 (Nat.le_refl _)
       have hfin := cX.stored (a0 := .bool sg) (a1 := u a9) (a2 := u b9) (a3 := .pointer p9) hz hN (cf HW0.out hb3) (by omega)
       have HFin := Lib.hid hfin
       (have hz := HZ.out.below hb3 (Nat.le_refl _); have zf := hz.frozen; obtain ⟨z0, z1, z2, z3⟩ := hz.cells; have zf0 := zf 0; have zf1 := zf 1; have zf2 := zf 2; have zf3 := zf 3; clear zf hz)
       clear hfin hN hN' hb hb3
       go_wp2_with fail
       refine bodyPost_ret (v := .agg #[.bool sg, u a9, u b9, .pointer p9]) (by simp [results, Tryz.results29, go_sem, z0, z1, z2, z3]) rfl ?_
       exact HFin.out
     · have hT := HOK.out rfl
       have HT := Lib.hid hT
       clear hT
       go_wp2_with fail
       refine bodyPost_ret (v := lo a b c) (by simp [results, Tryz.results29, go_sem, z0, z1, z2, z3, q2]) rfl ?_
       exact ⟨_, rfl, HT.out _, (js HW0.out HA.out (by omega) _ _ _ _).trans ((cu _ _).mono (js HW0.out HA.out (by omega) _ _ _ _).size)⟩
   · clear h1 h2 z1 z2 hk hG
     generalize neg? r = neg1 at *
     generalize neg? s = neg2 at *
     generalize r.num.natAbs = n1 at *
     generalize r * s = t at *
     clear d1 i1 j1
     go_enter Tryz.func29, Tryz.ntmps29
     go_wp2_with fail
     obtain ⟨W0, hW0, hb0, ⟨f0, f1, f2, f3⟩, ⟨g0, g1, g2, g3⟩, hz⟩ := box3 w (.bool neg1) (u n1) (u l1) (.pointer none) (.bool neg2) (u 0) (u 0) (.pointer (some ⟨b2, 0, none⟩)); rw [← hW0]; clear hW0; have HZ := Lib.hid hz; have HW0 := Lib.hid hb0; have hb0 := Below.refl W0.heap.size W0; clear hz
     refine (HW.out _ (cf HW0.out hb0)).mono ?_
     rintro e W9 ⟨v, rfl, hN, hb⟩
     have hb3 := cf hb0 hb
     have hN' := hN
     obtain ⟨sg, a9, b9, p9, rfl⟩ := hN'.form
     have hz := HZ.out.below hb3 (Nat.le_refl _)
     have hfin := cX.stored (a0 := .bool sg) (a1 := u a9) (a2 := u b9) (a3 := .pointer p9) hz hN (cf HW0.out hb3) (by omega)
     have HFin := Lib.hid hfin
     (have hz := HZ.out.below hb3 (Nat.le_refl _); have zf := hz.frozen; obtain ⟨z0, z1, z2, z3⟩ := hz.cells; have zf0 := zf 0; have zf1 := zf 1; have zf2 := zf 2; have zf3 := zf 3; clear zf hz)
     clear hfin hN hN' hb hb3
     go_wp2_with fail
     refine bodyPost_ret (v := .agg #[.bool sg, u a9, u b9, .pointer p9]) (by simp [results, Tryz.results29, go_sem, z0, z1, z2, z3]) rfl ?_
     exact HFin.out
 · obtain ⟨neg2, a2, b2, p2, rfl⟩ := h2.form
   clear h1 h2 z1 z2 hk hG
   generalize neg? r = neg1 at *
   generalize r * s = t at *
   go_enter Tryz.func29, Tryz.ntmps29
   go_wp2_with fail
   obtain ⟨W0, hW0, hb0, ⟨f0, f1, f2, f3⟩, ⟨g0, g1, g2, g3⟩, hz⟩ := box3 w (.bool neg1) (u 0) (u 0) (.pointer (some ⟨b1, 0, none⟩)) (.bool neg2) (u a2) (u b2) (.pointer p2); rw [← hW0]; clear hW0; have HZ := Lib.hid hz; have HW0 := Lib.hid hb0; have hb0 := Below.refl W0.heap.size W0; clear hz
   refine (HW.out _ (cf HW0.out hb0)).mono ?_
   rintro e W9 ⟨v, rfl, hN, hb⟩
   have hb3 := cf hb0 hb
   have hN' := hN
   obtain ⟨sg, a9, b9, p9, rfl⟩ := hN'.form
   have hz := HZ.out.below hb3 (Nat.le_refl _)
   have hfin := cX.stored (a0 := .bool sg) (a1 := u a9) (a2 := u b9) (a3 := .pointer p9) hz hN (cf HW0.out hb3) (by omega)
   have HFin := Lib.hid hfin
   (have hz := HZ.out.below hb3 (Nat.le_refl _); have zf := hz.frozen; obtain ⟨z0, z1, z2, z3⟩ := hz.cells; have zf0 := zf 0; have zf1 := zf 1; have zf2 := zf 2; have zf3 := zf 3; clear zf hz)
   clear hfin hN hN' hb hb3
   go_wp2_with fail
   refine bodyPost_ret (v := .agg #[.bool sg, u a9, u b9, .pointer p9]) (by simp [results, Tryz.results29, go_sem, z0, z1, z2, z3]) rfl ?_
   exact HFin.out
open Go Go.RowKit Go.Proofs Lim
theorem side_any (sg : Bool) (a b : Nat) (p : Option Addr) (w : World) :
 Calls Tryz.prog 88 #[.agg #[.bool sg, u a, u b, .pointer p]] w (Val w (.int .i64 (if sg then -1 else 1))) := by
 cases sg
 · go_enter Tryz.func88, Tryz.ntmps88
   go_wp2_with fail
   go_ret
   exact ⟨rfl, cu w _⟩
 · go_enter Tryz.func88, Tryz.ntmps88
   go_wp2_with fail
   go_ret
   exact ⟨rfl, cu w _⟩
def sign (r : Rat) : Int := if r.num = 0 then 0 else if r.num < 0 then -1 else 1
theorem sign_q (v : Value) (r : Rat) (w : World) (h : cR w v r) :
 Calls Tryz.prog 19 #[v] w (Val w (.int .i64 (sign r))) := by
 have hsg : (if decide (r.num < 0) then (-1 : Int) else 1) = if r.num < 0 then -1 else 1 := by
  by_cases h : r.num < 0 <;> simp [h]
 cases h with
 | low l hv hd hn hdB =>
  subst hv
  by_cases h0 : r.num.natAbs = 0
  · have hs : sign r = 0 := by unfold sign; rw [if_pos (by omega)]
    rw [hs, h0]
    generalize decide (r.num < 0) = sg at *
    go_enter Tryz.func19, Tryz.ntmps19
    go_wp2_with fail
    go_ret
    exact ⟨rfl, cu w _⟩
  · have hs : sign r = if decide (r.num < 0) then -1 else 1 := by unfold sign; rw [if_neg (by omega), hsg]
    rw [hs]
    have HS := Lib.hid (fun W => side_any (decide (r.num < 0)) r.num.natAbs l none W)
    clear hs hsg hn hd hdB
    have h1 : (((r.num.natAbs : Nat) : Int) == 0) = false := by rw [beq_eq_false_iff_ne]; omega
    obtain ⟨sv, hsv⟩ : ∃ sv : Int, sv = if decide (r.num < 0) then -1 else 1 := ⟨_, rfl⟩
    rw [← hsv] at HS ⊢
    clear hsv
    generalize decide (r.num < 0) = sg at *
    generalize r.num.natAbs = n at *
    clear h0
    go_enter Tryz.func19, Tryz.ntmps19
    go_wp2_with fail
    refine (HS.out _).mono ?_
    rintro e W1 ⟨rfl, hb⟩
    have HB := Lib.hid (cf (cu w _) hb)
    clear hb
    go_wp2_with fail
    go_ret
    exact ⟨rfl, HB.out⟩
 | wide b x y hv hx hy h1 h2 hB h0 hd =>
  subst hv
  have hs : sign r = if decide (r.num < 0) then -1 else 1 := by unfold sign; rw [if_neg (by omega), hsg]
  rw [hs]
  have HS := Lib.hid (fun W => side_any (decide (r.num < 0)) 0 0 (some ⟨b, 0, none⟩) W)
  clear hs hsg hx hy h1 h2 hB h0 hd
  obtain ⟨sv, hsv⟩ : ∃ sv : Int, sv = if decide (r.num < 0) then -1 else 1 := ⟨_, rfl⟩
  rw [← hsv] at HS ⊢
  clear hsv
  generalize decide (r.num < 0) = sg at *
  go_enter Tryz.func19, Tryz.ntmps19
  go_wp2_with fail
  refine (HS.out _).mono ?_
  rintro e W1 ⟨rfl, hb⟩
  have HB := Lib.hid (cf (cu w _) hb)
  clear hb
  go_wp2_with fail
  go_ret
  exact ⟨rfl, HB.out⟩
theorem Num.resign {w : World} {s1 s2 s3 : Bool} {a b : Nat} {p : Option Addr} {n d : Nat} (h : Num w (.agg #[.bool s1, u a, u b, .pointer p]) s2 n d) : Num w (.agg #[.bool s3, u a, u b, .pointer p]) s3 n d := by
 cases h with
 | low l hv hd hn hdB =>
  simp at hv
  obtain ⟨_, e1, e2, rfl⟩ := hv
  have e1 : a = n := by omega
  have e2 : b = l := by omega
  subst e1 e2
  exact .low _ rfl hd hn hdB
 | wide b' x y hv hx hy h1 h2 hB h0 hd =>
  simp at hv
  obtain ⟨_, e1, e2, rfl⟩ := hv
  have e1 : a = 0 := by omega
  have e2 : b = 0 := by omega
  subst e1 e2
  exact .wide b' x y rfl hx hy h1 h2 hB h0 hd
theorem box2w (w : World) (a0 a1 a2 a3 : Value) : ∃ W, W = (w.alloc (.cells #[a0, a1, a2, a3] 26)).alloc (.cells #[.bool false, .int .u64 0, .int .u64 0, .pointer none] 26) ∧ Below w.heap.size w W ∧
 Box W w.heap.size a0 a1 a2 a3 ∧ Box W (w.heap.size + 1) (.bool false) (.int .u64 0) (.int .u64 0) (.pointer none) := by
 refine ⟨_, rfl, cf (cu w _) (cu _ _), ?_, ?_⟩
 · have h1 : Box (w.alloc (.cells #[a0, a1, a2, a3] 26)) w.heap.size a0 a1 a2 a3 := heap_alloc_new w _
   exact h1.below (cu _ _) (Nat.le_refl _)
 · have hs : (w.alloc (.cells #[a0, a1, a2, a3] 26)).heap.size = w.heap.size + 1 := by
    show (w.heap.push _).size = _
    simp
   rw [← hs]
   exact heap_alloc_new _ _
theorem neg_q (v : Value) (r : Rat) (w : World) (h : cR w v r) :
 Calls Tryz.prog 37 #[v] w (cX w (-r)) := by
 have hq : ∀ W sg neg a b p, v = .agg #[.bool neg, u a, u b, .pointer p] → sg = decide (0 < sign r) → Below w.heap.size w W → cR W (.agg #[.bool sg, u a, u b, .pointer p]) (-r) := by
  intro W sg neg a b p hv hs hW
  have h' := h.below hW (Nat.le_refl _)
  have e3 : decide ((-r).num < 0) = sg := by
   rw [hs]
   unfold sign
   rw [Rat.neg_num, Bool.eq_iff_iff]
   simp only [decide_eq_true_eq]
   split
   · omega
   · split <;> omega
  unfold cR
  rw [e3, Rat.neg_num, Int.natAbs_neg, Rat.neg_den]
  subst hv
  exact Num.resign h'
 have HQ := Lib.hid hq
 have HS := Lib.hid (fun W (hW : Below w.heap.size w W) => sign_q v r W (h.below hW (Nat.le_refl _)))
 obtain ⟨neg, a, b, p, rfl⟩ := h.form
 clear h hq
 generalize sign r = sv at *
 generalize -r = t at *
 go_enter Tryz.func37, Tryz.ntmps37
 go_wp2_with fail
 obtain ⟨W0, hW0, hb0, hx, hz⟩ := box2w w (.bool neg) (u a) (u b) (.pointer p)
 rw [← hW0]
 clear hW0
 refine (HS.out _ hb0).mono ?_
 rintro e W1 ⟨rfl, hb⟩
 have hx1 := hx.below hb (Nat.le_refl _)
 have hz1 := hz.below hb (Nat.le_refl _)
 have HB := Lib.hid (cf hb0 hb)
 have xf := hx1.frozen
 obtain ⟨x0, x1, x2, x3⟩ := hx1.cells
 have xf0 := xf 0
 have zf := hz1.frozen
 obtain ⟨z0, z1, z2, z3⟩ := hz1.cells
 have zf0 := zf 0
 have zf1 := zf 1
 have zf2 := zf 2
 have zf3 := zf 3
 clear xf zf hx hz hx1 hz1 hb hb0
 go_wp2_with fail
 have hb5 : Below w.heap.size w (((((W1.setCell ⟨w.heap.size, 0, none⟩ (.bool (decide (0 < sv)))).setCell ⟨w.heap.size + 1, 0, none⟩ (.bool (decide (0 < sv)))).setCell ⟨w.heap.size + 1, 1, none⟩ (u a)).setCell ⟨w.heap.size + 1, 2, none⟩ (u b)).setCell ⟨w.heap.size + 1, 3, none⟩ (.pointer p)) :=
  (HB.out.trans (((cN.refl w.heap.size W1).set 0 _).below (Nat.le_refl _))).trans ((((((cN.refl (w.heap.size + 1) _).set 0 _).set 1 _).set 2 _).set 3 _).below (by omega))
 refine bodyPost_ret (v := .agg #[.bool (decide (0 < sv)), u a, u b, .pointer p]) (by simp [results, Tryz.results37, go_sem, z0, z1, z2, z3]) rfl ?_
 exact ⟨_, rfl, HQ.out _ _ _ _ _ _ rfl rfl hb5, hb5⟩
open Go Go.RowKit Go.Proofs Lim
theorem cF.neg {r : Rat} {k : Nat} (h : cF r k) : cF (-r) k := by
 unfold cF at *
 rw [Rat.neg_num, Int.natAbs_neg, Rat.neg_den]
 exact h
theorem minus_q (v1 v2 : Value) (r s : Rat) (k : Nat) (w : World) (h1 : cR w v1 r) (h2 : cR w v2 s) (z1 : cF r k) (z2 : cF s k) (hk : ((k + k + 1 : Nat) : Int) ≤ 1073741824) (hG : Gr w) :
 Calls Tryz.prog 27 #[v1, v2] w (cX w (r - s)) := by
 have HN := Lib.hid (fun W (hW : Below w.heap.size w W) => neg_q v2 s W (h2.below hW (Nat.le_refl _)))
 have HP := Lib.hid (fun v W (hv : cR W v (-s)) (hW : Below w.heap.size w W) => plus_q v1 v r (-s) k W (h1.below hW (Nat.le_refl _)) hv z1 z2.neg hk (hG.below hW hG.size))
 rw [← Rat.sub_eq_add_neg] at HP
 obtain ⟨neg1, a1, b1, p1, rfl⟩ := h1.form
 obtain ⟨neg2, a2, b2, p2, rfl⟩ := h2.form
 clear h1 h2 z1 z2 hk hG
 generalize r - s = t at *
 generalize -s = s' at *
 go_enter Tryz.func27, Tryz.ntmps27
 go_wp2_with fail
 obtain ⟨W0, hW0, hb0, ⟨f0, f1, f2, f3⟩, ⟨g0, g1, g2, g3⟩, hz⟩ := box3 w (.bool neg1) (u a1) (u b1) (.pointer p1) (.bool neg2) (u a2) (u b2) (.pointer p2); rw [← hW0]; clear hW0; have HZ := Lib.hid hz; have HW0 := Lib.hid hb0; have hb0 := Below.refl W0.heap.size W0; clear hz
 have n1 : ¬ w.heap.size = w.heap.size + 1 + 1 := by omega
 have n2 : ¬ w.heap.size + 1 + 1 = w.heap.size := by omega
 have n3 : w.heap.size ≠ w.heap.size + 1 + 1 := by omega
 go_region_held3 (fun w' => (w'.cell? ⟨w.heap.size, 0, none⟩ = some (.bool neg1) ∧ w'.cell? ⟨w.heap.size, 1, none⟩ = some (u a1) ∧ w'.cell? ⟨w.heap.size, 2, none⟩ = some (u b1) ∧ w'.cell? ⟨w.heap.size, 3, none⟩ = some (.pointer p1)) ∧ (w'.cell? ⟨w.heap.size + 1, 0, none⟩ = some (.bool neg2) ∧ w'.cell? ⟨w.heap.size + 1, 1, none⟩ = some (u a2) ∧ w'.cell? ⟨w.heap.size + 1, 2, none⟩ = some (u b2) ∧ w'.cell? ⟨w.heap.size + 1, 3, none⟩ = some (.pointer p2))) (go_keep) (first | ((with_reducible refine (HN.out _ ((cf HW0.out hb0).drew)).mono ?_); rintro e W1 ⟨vn, rfl, hvn, hb⟩; (obtain ⟨_, _, _, _⟩ := cq (b := w.heap.size) hb (by assumption) (by assumption) (by assumption) (by assumption); obtain ⟨_, _, _, _⟩ := cq (b := w.heap.size + 1) hb (by assumption) (by assumption) (by assumption) (by assumption)); obtain ⟨_, _, _, _, rfl⟩ := hvn.form) | ((with_reducible refine (HP.out _ _ hvn (cf HW0.out (cI hb0 hb))).mono ?_); rintro e W9 ⟨v, rfl, hv, hb'⟩; (obtain ⟨_, _, _, _⟩ := cq (b := w.heap.size) hb' (by assumption) (by assumption) (by assumption) (by assumption); obtain ⟨_, _, _, _⟩ := cq (b := w.heap.size + 1) hb' (by assumption) (by assumption) (by assumption) (by assumption)); have hv' := hv; obtain ⟨sg9, a9, b9, p9, rfl⟩ := hv'.form; have hb3 := cf (cI hb0 hb) hb'; (have hz := HZ.out.below hb3 (Nat.le_refl _); have zf := hz.frozen; obtain ⟨z0, z1, z2, z3⟩ := hz.cells; have zf0 := zf 0; have zf1 := zf 1; have zf2 := zf 2; have zf3 := zf 3; clear zf hz)))
 have hz := HZ.out.below hb3 (Nat.le_refl _)
 have hfin := cX.stored (a0 := .bool sg9) (a1 := u a9) (a2 := u b9) (a3 := .pointer p9) hz hv (cf HW0.out hb3) (by omega)
 have HFin := Lib.hid hfin
 clear hfin hv hv' hvn hb hb' hb0 hb3 hz f0 f1 f2 f3 g0 g1 g2 g3
 go_wp2_with fail
 refine bodyPost_ret (v := .agg #[.bool sg9, u a9, u b9, .pointer p9]) (by simp [results, Tryz.results27, go_sem, z0, z1, z2, z3]) rfl ?_
 exact HFin.out
open Go Go.RowKit Go.Proofs Lim
def cmpQ (r s : Rat) : Int := if r < s then -1 else if s < r then 1 else 0
theorem cmpQ_int (r s : Rat) : cmpQ r s = if r.num * s.den < s.num * r.den then -1 else if s.num * r.den < r.num * s.den then 1 else 0 := by
 unfold cmpQ
 simp only [Rat.lt_iff]
theorem apart_int {m n : Int} {a b : Nat} (ha : 0 < a) (hb : 0 < b) (h : decide (m < 0) ≠ decide (n < 0)) :
 (if m * b < n * a then (-1 : Int) else if n * a < m * b then 1 else 0) = if decide (m < 0) then -1 else 1 := by
 have ha' : (0 : Int) < a := by omega
 have hb' : (0 : Int) < b := by omega
 by_cases hm : m < 0
 · have hn : 0 ≤ n := by
    by_cases hn : n < 0
    · exact absurd (by simp [hm, hn]) h
    · omega
   have h1 : m * b < 0 := Int.mul_neg_of_neg_of_pos hm hb'
   have h2 : 0 ≤ n * a := Int.mul_nonneg hn (Int.le_of_lt ha')
   rw [if_pos (by omega)]
   simp [hm]
 · have hn : n < 0 := by
    by_cases hn : n < 0
    · exact hn
    · exact absurd (by simp [hm, hn]) h
   have h1 : n * a < 0 := Int.mul_neg_of_neg_of_pos hn ha'
   have h2 : 0 ≤ m * b := Int.mul_nonneg (by omega) (Int.le_of_lt hb')
   rw [if_neg (by omega), if_pos (by omega)]
   simp [hm]
theorem same_int {m n : Int} {a b : Nat} (h : decide (m < 0) = decide (n < 0)) :
 (if decide (m < 0) then (-1 : Int) else 1) * cD (m.natAbs * b) (n.natAbs * a) = if m * b < n * a then (-1 : Int) else if n * a < m * b then 1 else 0 := by
 unfold cD
 by_cases hm : m < 0
 · have hn : n < 0 := by
    by_cases hn : n < 0
    · exact hn
    · simp [hm, hn] at h
   have e1 : m * b = -((m.natAbs * b : Nat) : Int) := by
    rw [Int.natCast_mul, ← Int.neg_mul]; congr 1; omega
   have e2 : n * a = -((n.natAbs * a : Nat) : Int) := by
    rw [Int.natCast_mul, ← Int.neg_mul]; congr 1; omega
   rw [e1, e2]
   generalize m.natAbs * b = x
   generalize n.natAbs * a = y
   simp only [hm, decide_true, if_true]
   rcases Nat.lt_trichotomy x y with g | g | g
   · rw [if_pos g, if_neg (by omega), if_pos (by omega)]; rfl
   · rw [if_neg (by omega), if_neg (by omega), if_neg (by omega), if_neg (by omega)]; rfl
   · rw [if_neg (by omega), if_pos g, if_pos (by omega)]; rfl
 · have hn : ¬ n < 0 := by
    intro hn
    simp [hm, hn] at h
   have e1 : m * b = ((m.natAbs * b : Nat) : Int) := by
    rw [Int.natCast_mul]; congr 1; omega
   have e2 : n * a = ((n.natAbs * a : Nat) : Int) := by
    rw [Int.natCast_mul]; congr 1; omega
   rw [e1, e2]
   generalize m.natAbs * b = x
   generalize n.natAbs * a = y
   simp only [hm, decide_false, Bool.false_eq_true, if_false]
   rcases Nat.lt_trichotomy x y with g | g | g
   · rw [if_pos g, if_pos (by omega)]; rfl
   · rw [if_neg (by omega), if_neg (by omega), if_neg (by omega), if_neg (by omega)]; rfl
   · rw [if_neg (by omega), if_pos g, if_neg (by omega), if_pos (by omega)]; rfl
theorem cmpQ_apart {r s : Rat} (h : neg? r ≠ neg? s) : cmpQ r s = if neg? r then -1 else 1 := by
 rw [cmpQ_int]
 exact apart_int r.den_pos s.den_pos h
theorem cmpQ_same {r s : Rat} (h : neg? r = neg? s) : (if neg? r then (-1 : Int) else 1) * cD (r.num.natAbs * s.den) (s.num.natAbs * r.den) = cmpQ r s := by
 rw [cmpQ_int]
 exact same_int h
theorem cmpQ_wrap (r s : Rat) : IntKind.i64.wrap (cmpQ r s) = cmpQ r s := by
 unfold cmpQ
 split
 · rfl
 · split <;> rfl
theorem cmp_q (v1 v2 : Value) (r s : Rat) (k : Nat) (w : World) (h1 : cR w v1 r) (h2 : cR w v2 s) (z1 : cF r k) (z2 : cF s k) (hk : (k : Int) ≤ 1073741824) :
 Calls Tryz.prog 31 #[v1, v2] w (Val w (.int .i64 (cmpQ r s))) := by
 have HW := Lib.hid (fun W (hW : Below w.heap.size w W) => compareWide_any v1 v2 _ _ _ _ _ _ k W (h1.below hW (Nat.le_refl _)) (h2.below hW (Nat.le_refl _)) z1.1 z1.2 z2.1 z2.2 hk)
 by_cases hne : neg? r = neg? s
 · have hres := cmpQ_same hne
   have hwr := cmpQ_wrap r s
   rw [← hres] at hwr
   have hbn : (neg? r == neg? s) = true := by rw [hne]; simp
   obtain ⟨sv, hsv⟩ : ∃ sv : Int, sv = if neg? r then -1 else 1 := ⟨_, rfl⟩
   have hside := fun a b p W => side_any (neg? r) a b p W
   rw [← hsv] at hside hres hwr
   clear hsv
   rcases h1.forms with ⟨l1, rfl, d1, i1, j1⟩ | ⟨b1, rfl⟩
   · have HS := Lib.hid (hside r.num.natAbs l1 none)
     rcases h2.forms with ⟨l2, rfl, d2, i2, j2⟩ | ⟨b2, rfl⟩
     · have HC := Lib.hid (fun W => compareSmall_any (neg? r) (neg? s) r.num.natAbs l1 s.num.natAbs l2 i1 (d1 ▸ j1) i2 (d2 ▸ j2) W)
       rw [← d1, ← d2] at HC
       generalize cD (r.num.natAbs * s.den) (s.num.natAbs * r.den) = cv at *
       clear h1 h2 z1 z2 hk hne hside i1 i2 j1 j2 d1 d2 HW
       generalize cmpQ r s = t at *
       generalize neg? r = neg1 at *
       generalize neg? s = neg2 at *
       generalize r.num.natAbs = n1 at *
       generalize s.num.natAbs = n2 at *
       subst hres
       generalize hpr : sv * cv = pr at *
       go_enter Tryz.func31, Tryz.ntmps31
       go_wp2_with fail
       obtain ⟨W0, hW0, hb0, ⟨f0, f1, f2, f3⟩, ⟨g0, g1, g2, g3⟩⟩ := box2 w (.bool neg1) (u n1) (u l1) (.pointer none) (.bool neg2) (u n2) (u l2) (.pointer none); rw [← hW0]; clear hW0
       go_region_held3 (fun w' => (w'.cell? ⟨w.heap.size, 0, none⟩ = some (.bool neg1) ∧ w'.cell? ⟨w.heap.size, 1, none⟩ = some (u n1) ∧ w'.cell? ⟨w.heap.size, 2, none⟩ = some (u l1) ∧ w'.cell? ⟨w.heap.size, 3, none⟩ = some (.pointer none)) ∧ (w'.cell? ⟨w.heap.size + 1, 0, none⟩ = some (.bool neg2) ∧ w'.cell? ⟨w.heap.size + 1, 1, none⟩ = some (u n2) ∧ w'.cell? ⟨w.heap.size + 1, 2, none⟩ = some (u l2) ∧ w'.cell? ⟨w.heap.size + 1, 3, none⟩ = some (.pointer none))) (go_keep) (first | ((with_reducible refine (HS.out _).mono ?_); rintro e W1 ⟨rfl, hb⟩; (obtain ⟨_, _, _, _⟩ := cq (b := w.heap.size) hb (by assumption) (by assumption) (by assumption) (by assumption); obtain ⟨_, _, _, _⟩ := cq (b := w.heap.size + 1) hb (by assumption) (by assumption) (by assumption) (by assumption))) | ((with_reducible refine (HC.out _).mono ?_); rintro e W2 ⟨rfl, hb'⟩; (obtain ⟨_, _, _, _⟩ := cq (b := w.heap.size) hb' (by assumption) (by assumption) (by assumption) (by assumption); obtain ⟨_, _, _, _⟩ := cq (b := w.heap.size + 1) hb' (by assumption) (by assumption) (by assumption) (by assumption))))
       have HB := Lib.hid (cf (cI hb0 hb) hb')
       clear hb0 hb hb' f0 f1 f2 f3 g0 g1 g2 g3
       go_wp2_with fail
       go_ret
       exact ⟨rfl, HB.out⟩
     · generalize cD (r.num.natAbs * s.den) (s.num.natAbs * r.den) = cv at *
       clear h1 h2 z1 z2 hk hne hside i1 j1 d1
       generalize cmpQ r s = t at *
       generalize neg? r = neg1 at *
       generalize neg? s = neg2 at *
       generalize r.num.natAbs = n1 at *
       subst hres
       generalize hpr : sv * cv = pr at *
       go_enter Tryz.func31, Tryz.ntmps31
       go_wp2_with fail
       obtain ⟨W0, hW0, hb0, ⟨f0, f1, f2, f3⟩, ⟨g0, g1, g2, g3⟩⟩ := box2 w (.bool neg1) (u n1) (u l1) (.pointer none) (.bool neg2) (u 0) (u 0) (.pointer (some ⟨b2, 0, none⟩)); rw [← hW0]; clear hW0
       go_region_held3 (fun w' => (w'.cell? ⟨w.heap.size, 0, none⟩ = some (.bool neg1) ∧ w'.cell? ⟨w.heap.size, 1, none⟩ = some (u n1) ∧ w'.cell? ⟨w.heap.size, 2, none⟩ = some (u l1) ∧ w'.cell? ⟨w.heap.size, 3, none⟩ = some (.pointer none)) ∧ (w'.cell? ⟨w.heap.size + 1, 0, none⟩ = some (.bool neg2) ∧ w'.cell? ⟨w.heap.size + 1, 1, none⟩ = some (u 0) ∧ w'.cell? ⟨w.heap.size + 1, 2, none⟩ = some (u 0) ∧ w'.cell? ⟨w.heap.size + 1, 3, none⟩ = some (.pointer (some ⟨b2, 0, none⟩)))) (go_keep) (first | ((with_reducible refine (HS.out _).mono ?_); rintro e W1 ⟨rfl, hb⟩; (obtain ⟨_, _, _, _⟩ := cq (b := w.heap.size) hb (by assumption) (by assumption) (by assumption) (by assumption); obtain ⟨_, _, _, _⟩ := cq (b := w.heap.size + 1) hb (by assumption) (by assumption) (by assumption) (by assumption))) | ((with_reducible refine (HW.out _ (cI hb0 hb)).mono ?_); rintro e W2 ⟨rfl, hb'⟩; (obtain ⟨_, _, _, _⟩ := cq (b := w.heap.size) hb' (by assumption) (by assumption) (by assumption) (by assumption); obtain ⟨_, _, _, _⟩ := cq (b := w.heap.size + 1) hb' (by assumption) (by assumption) (by assumption) (by assumption))))
       have HB := Lib.hid (cf (cI hb0 hb) hb')
       clear hb0 hb hb' f0 f1 f2 f3 g0 g1 g2 g3
       go_wp2_with fail
       go_ret
       exact ⟨rfl, HB.out⟩
   · have HS := Lib.hid (hside 0 0 (some ⟨b1, 0, none⟩))
     obtain ⟨a2, b2, p2, rfl, _⟩ := Num.form h2
     clear h1 h2 z1 z2 hk hbn
     obtain ⟨neg2, hn2⟩ : ∃ neg2, neg2 = decide (s.num < 0) := ⟨_, rfl⟩
     rw [← hn2] at HW ⊢
     have hne2 : neg? r = neg2 := hne.trans hn2.symm
     have hbn : (neg? r == neg2) = true := by rw [hne2]; simp
     clear hne hne2
     generalize cD (r.num.natAbs * s.den) (s.num.natAbs * r.den) = cv at *
     clear hside hn2
     generalize cmpQ r s = t at *
     generalize neg? r = neg1 at *
     subst hres
     generalize hpr : sv * cv = pr at *
     go_enter Tryz.func31, Tryz.ntmps31
     go_wp2_with fail
     obtain ⟨W0, hW0, hb0, ⟨f0, f1, f2, f3⟩, ⟨g0, g1, g2, g3⟩⟩ := box2 w (.bool neg1) (u 0) (u 0) (.pointer (some ⟨b1, 0, none⟩)) (.bool neg2) (u a2) (u b2) (.pointer p2); rw [← hW0]; clear hW0
     go_region_held3 (fun w' => (w'.cell? ⟨w.heap.size, 0, none⟩ = some (.bool neg1) ∧ w'.cell? ⟨w.heap.size, 1, none⟩ = some (u 0) ∧ w'.cell? ⟨w.heap.size, 2, none⟩ = some (u 0) ∧ w'.cell? ⟨w.heap.size, 3, none⟩ = some (.pointer (some ⟨b1, 0, none⟩))) ∧ (w'.cell? ⟨w.heap.size + 1, 0, none⟩ = some (.bool neg2) ∧ w'.cell? ⟨w.heap.size + 1, 1, none⟩ = some (u a2) ∧ w'.cell? ⟨w.heap.size + 1, 2, none⟩ = some (u b2) ∧ w'.cell? ⟨w.heap.size + 1, 3, none⟩ = some (.pointer p2))) (go_keep) (first | ((with_reducible refine (HS.out _).mono ?_); rintro e W1 ⟨rfl, hb⟩; (obtain ⟨_, _, _, _⟩ := cq (b := w.heap.size) hb (by assumption) (by assumption) (by assumption) (by assumption); obtain ⟨_, _, _, _⟩ := cq (b := w.heap.size + 1) hb (by assumption) (by assumption) (by assumption) (by assumption))) | ((with_reducible refine (HW.out _ (cI hb0 hb)).mono ?_); rintro e W2 ⟨rfl, hb'⟩; (obtain ⟨_, _, _, _⟩ := cq (b := w.heap.size) hb' (by assumption) (by assumption) (by assumption) (by assumption); obtain ⟨_, _, _, _⟩ := cq (b := w.heap.size + 1) hb' (by assumption) (by assumption) (by assumption) (by assumption))))
     have HB := Lib.hid (cf (cI hb0 hb) hb')
     clear hb0 hb hb' f0 f1 f2 f3 g0 g1 g2 g3
     go_wp2_with fail
     go_ret
     exact ⟨rfl, HB.out⟩
 · have hres := cmpQ_apart hne
   obtain ⟨a1, b1, p1, rfl, _⟩ := Num.form h1
   obtain ⟨a2, b2, p2, rfl, _⟩ := Num.form h2
   have HS := Lib.hid (fun W => side_any (decide (r.num < 0)) a1 b1 p1 W)
   rw [← hres] at HS
   have hb : (decide (r.num < 0) == decide (s.num < 0)) = false := by simpa using hne
   clear h1 h2 z1 z2 hk HW hres hne
   generalize cmpQ r s = t at *
   generalize decide (r.num < 0) = neg1 at *
   generalize decide (s.num < 0) = neg2 at *
   go_enter Tryz.func31, Tryz.ntmps31
   go_wp2_with fail
   obtain ⟨W0, hW0, hb0, ⟨f0, f1, f2, f3⟩, ⟨g0, g1, g2, g3⟩⟩ := box2 w (.bool neg1) (u a1) (u b1) (.pointer p1) (.bool neg2) (u a2) (u b2) (.pointer p2); rw [← hW0]; clear hW0
   refine (HS.out _).mono ?_
   rintro e W1 ⟨rfl, hb1⟩
   have HB := Lib.hid (cf hb0 hb1)
   clear hb0 hb1
   go_wp2_with fail
   go_ret
   exact ⟨rfl, HB.out⟩
end Go.Proofs.YtccabfblgjcboaaGreatDoor
