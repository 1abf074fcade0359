/- ExactField: for all texts the call returns true: sums and products are associative and commutative, products distribute over sums, differences and quotients undo sums and products. No condition. -/
import Derived.Test.YtojploidgagmgaaGreatDoorJ6
import Derived.Test.YtojploidgagmgaaGreatDoorJF
set_option linter.unusedVariables false
set_option linter.unusedSimpArgs false
namespace Go.Proofs.YtojploidgagmgaaGreatDoor
open Go Go.RowKit Go.Proofs Lim
set_option maxHeartbeats 4000000 in
set_option maxRecDepth 100000 in
theorem field_walk (l1 l2 l3 : List UInt8) (w : World) (hG : Gr w) :
    Calls Tryz.prog 9 #[str l1, str l2, str l3] w (Val w (.bool true)) := by
  have HLong := Lib.hid (fun cs W hc => o_long [l1, l2, l3] cs 3 W hc rfl (by simp))
  have HKn := Lib.hid (o_known w hG)
  cases hlen : [l1, l2, l3].any (fun x => decide (120 < x.length)) with
  | true =>
    rw [hlen] at HLong
    clear hlen
    go_enter Tryz.func9, Tryz.ntmps9
    go_wp2_with fail
    refine (HLong.out _ _ rfl).mono ?_
    rintro e W1 ⟨rfl, hb⟩
    have HB1 := Lib.hid hb
    clear hb
    go_wp2_with fail
    refine (HKn.out _ HB1.out).mono ?_
    rintro e W2 ⟨rfl, hb⟩
    have HB2 := Lib.hid (chain1 HB1.out hb)
    clear hb
    go_wp2_with fail
    exact bodyPost_ret (v := .bool true) (by simp [results, Tryz.results9, go_sem]) rfl ⟨rfl, HB2.out⟩
  | false =>
    rw [hlen] at HLong
    have k := long_lens hlen
    have k1 := k l1 (by simp)
    have k2 := k l2 (by simp)
    have k3 := k l3 (by simp)
    clear k hlen
    have N1 := Lib.hid (fun W => o_number w hG l1 W (by omega))
    have N2 := Lib.hid (fun W => o_number w hG l2 W (by omega))
    have N3 := Lib.hid (fun W => o_number w hG l3 W (by omega))
    have z1 := sz_read k1
    have z2 := sz_read k2
    have z3 := sz_read k3
    clear k1 k2 k3
    generalize (readQ l1).1 = x at *
    generalize (readQ l2).1 = y at *
    generalize (readQ l3).1 = z at *
    have OPlus := Lib.hid (o_plus w hG)
    have OMinus := Lib.hid (o_minus w hG)
    have OTimes := Lib.hid (o_times w hG)
    have ONeg := Lib.hid (o_neg)
    have OOne := Lib.hid (o_one)
    have OEq := Lib.hid (o_eq)
    have OSign0 := Lib.hid (o_sign0)
    have OSign := Lib.hid (o_sign)
    have OOver := Lib.hid (o_over w hG)
    have Zq_LLxTyRTzR := Lib.hid (show Sz ((x * y) * z) from Siz.sz ((z1.mul z2).mul z3) (by omega))
    have Zq_LLxPyRTzR := Lib.hid (show Sz ((x + y) * z) from Siz.sz ((z1.add z2).mul z3) (by omega))
    have Zq_LLxPyRPzR := Lib.hid (show Sz ((x + y) + z) from Siz.sz ((z1.add z2).add z3) (by omega))
    have Zq_LMxR := Lib.hid (show Sz (-x) from Siz.sz (z1).neg (by omega))
    have Zq_LxTyR := Lib.hid (show Sz (x * y) from Siz.sz (z1.mul z2) (by omega))
    have Zq_LxTzR := Lib.hid (show Sz (x * z) from Siz.sz (z1.mul z3) (by omega))
    have Zq_LxPyR := Lib.hid (show Sz (x + y) from Siz.sz (z1.add z2) (by omega))
    have Zq_LxMyR := Lib.hid (show Sz (x - y) from Siz.sz (z1.sub z2) (by omega))
    have Zq_LyTzR := Lib.hid (show Sz (y * z) from Siz.sz (z2.mul z3) (by omega))
    have Zq_LyPzR := Lib.hid (show Sz (y + z) from Siz.sz (z2.add z3) (by omega))
    have Zq_0 := Lib.hid (show Sz (0 : Rat) from Siz.sz (Siz.zero 1 (by decide)) (by omega))
    have Zq_1 := Lib.hid (show Sz (1 : Rat) from Siz.sz siz_one (by omega))
    have Zq_x := Lib.hid (show Sz x from Siz.sz z1 (by omega))
    have Zq_y := Lib.hid (show Sz y from Siz.sz z2 (by omega))
    have Zq_z := Lib.hid (show Sz z from Siz.sz z3 (by omega))
    have Eq_LLxMyRPyR := Lib.hid (show (((x - y) + y) : Rat) = x by grind)
    have Eq_LLxTzRPLyTzRR := Lib.hid (show (((x * z) + (y * z)) : Rat) = ((x + y) * z) by grind)
    have Eq_LxP0R := Lib.hid (show ((x + 0) : Rat) = x by grind)
    have Eq_LxPLMxRR := Lib.hid (show ((x + (-x)) : Rat) = 0 by grind)
    have Eq_LxPLyPzRR := Lib.hid (show ((x + (y + z)) : Rat) = ((x + y) + z) by grind)
    have Eq_LxT1R := Lib.hid (show ((x * 1) : Rat) = x by grind)
    have Eq_LxTLyTzRR := Lib.hid (show ((x * (y * z)) : Rat) = ((x * y) * z) by grind)
    have Eq_LyPxR := Lib.hid (show ((y + x) : Rat) = (x + y) by grind)
    have Eq_LyTxR := Lib.hid (show ((y * x) : Rat) = (x * y) by grind)
    have HZ1 := Lib.hid z1
    have HZ2 := Lib.hid z2
    clear z1 z2 z3 hG
    go_enter Tryz.func9, Tryz.ntmps9
    go_wp2_with fail
    refine (HLong.out _ _ rfl).mono ?_
    rintro e W1 ⟨rfl, hb⟩
    have HB := Lib.hid hb
    clear hb
    go_wp2_with fail
    refine (N1.out _ HB.out).mono ?_
    rintro e W2 ⟨vx, rfl, hx, hb⟩
    have HB := Lib.hid (chain1 HB.out hb)
    clear hb
    obtain ⟨s1, a1, b1, p1, rfl⟩ := hx.form
    have HX := Lib.hid hx
    clear hx
    go_wp2_with fail
    refine (N2.out _ HB.out).mono ?_
    rintro e W3 ⟨vy, rfl, hy, hb⟩
    have HB := Lib.hid (chain1 HB.out hb)
    have HX := Lib.hid (HX.out.below hb (Nat.le_refl _))
    clear hb
    obtain ⟨s2, a2, b2, p2, rfl⟩ := hy.form
    have HY := Lib.hid hy
    clear hy
    go_wp2_with fail
    refine (N3.out _ HB.out).mono ?_
    rintro e W4 ⟨vz, rfl, hz, hb⟩
    have HB := Lib.hid (chain1 HB.out hb)
    have HX := Lib.hid (HX.out.below hb (Nat.le_refl _))
    have HY := Lib.hid (HY.out.below hb (Nat.le_refl _))
    clear hb
    obtain ⟨s3, a3, b3, p3, rfl⟩ := hz.form
    have HZ := Lib.hid hz
    clear hz
    go_upto_region 4 with fail
    obtain ⟨W5, hW, hb, hB1, hs⟩ := nbox W4 W4.heap.size rfl (.bool s1) (u a1) (u b1) (.pointer p1)
    rw [hW]; clear hW
    have HB := Lib.hid (chain1 HB.out hb)
    have HX := Lib.hid (HX.out.below hb (Nat.le_refl _)); have HY := Lib.hid (HY.out.below hb (Nat.le_refl _)); have HZ := Lib.hid (HZ.out.below hb (Nat.le_refl _))
    generalize W4.heap.size = n at *
    clear hb
    obtain ⟨W6, hW, hb, hB2, hs⟩ := nbox W5 (n + 1) hs (.bool s2) (u a2) (u b2) (.pointer p2)
    rw [hW]; clear hW
    have HB := Lib.hid (chain1 HB.out hb)
    have HX := Lib.hid (HX.out.below hb (Nat.le_refl _)); have HY := Lib.hid (HY.out.below hb (Nat.le_refl _)); have HZ := Lib.hid (HZ.out.below hb (Nat.le_refl _))
    have hB1 := hB1.below hb (Nat.le_refl _)
    clear hb
    obtain ⟨W0, hW, hb, hB3, hs⟩ := nbox W6 (n + 1 + 1) hs (.bool s3) (u a3) (u b3) (.pointer p3)
    rw [hW]; clear hW
    have HB := Lib.hid (chain1 HB.out hb)
    have Q1 := Lib.hid (HX.out.below hb (Nat.le_refl _)); have Q2 := Lib.hid (HY.out.below hb (Nat.le_refl _)); have Q3 := Lib.hid (HZ.out.below hb (Nat.le_refl _))
    have X1 := Lib.hid (hB1.below hb (Nat.le_refl _)); have X2 := Lib.hid (hB2.below hb (Nat.le_refl _)); have X3 := Lib.hid hB3
    clear hb hB1 hB2 hB3 hs HX HY HZ
    have hb0 := Below.refl W0.heap.size W0
    have q1 := Q1.out
    obtain ⟨c10, c11, c12, c13⟩ := X1.out.cells
    have q2 := Q2.out
    obtain ⟨c20, c21, c22, c23⟩ := X2.out.cells
    have q3 := Q3.out
    obtain ⟨c30, c31, c32, c33⟩ := X3.out.cells
    go_region_held3 (fun w' => (w'.cell? ⟨n, 0, none⟩ = some (.bool s1) ∧ w'.cell? ⟨n, 1, none⟩ = some (u a1) ∧ w'.cell? ⟨n, 2, none⟩ = some (u b1) ∧ w'.cell? ⟨n, 3, none⟩ = some (.pointer p1)) ∧ (w'.cell? ⟨n + 1, 0, none⟩ = some (.bool s2) ∧ w'.cell? ⟨n + 1, 1, none⟩ = some (u a2) ∧ w'.cell? ⟨n + 1, 2, none⟩ = some (u b2) ∧ w'.cell? ⟨n + 1, 3, none⟩ = some (.pointer p2)) ∧ (w'.cell? ⟨n + 1 + 1, 0, none⟩ = some (.bool s3) ∧ w'.cell? ⟨n + 1 + 1, 1, none⟩ = some (u a3) ∧ w'.cell? ⟨n + 1 + 1, 2, none⟩ = some (u b3) ∧ w'.cell? ⟨n + 1 + 1, 3, none⟩ = some (.pointer p3))) (go_keep) (first | ((with_reducible refine (OPlus.out _ _ (x) (y) _ (chain1 HB.out hb0.drew) q1.drewn q2.drewn Zq_x.out Zq_y.out).mono ?_); rintro e V4 ⟨v_q_26, rfl, q_26, hb⟩; obtain ⟨s_q_26, a_q_26, b_q_26, p_q_26, rfl⟩ := q_26.form; replace hb0 : Below W0.heap.size W0 V4 := chain hb0 hb; (try (replace q_29 := q_29.below hb (Nat.le_refl _))); (try (replace q_35 := q_35.below hb (Nat.le_refl _))); (try (replace q_38 := q_38.below hb (Nat.le_refl _))); (try (replace q_45 := q_45.below hb (Nat.le_refl _))); (try (replace q_47 := q_47.below hb (Nat.le_refl _))); (try (replace q_51 := q_51.below hb (Nat.le_refl _))); (try (replace q_52 := q_52.below hb (Nat.le_refl _))); (try (replace q_61 := q_61.below hb (Nat.le_refl _))); (try (replace q_65 := q_65.below hb (Nat.le_refl _))); (try (replace q_66 := q_66.below hb (Nat.le_refl _))); (try (replace q_75 := q_75.below hb (Nat.le_refl _))); (try (replace q_78 := q_78.below hb (Nat.le_refl _))); (try (replace q_82 := q_82.below hb (Nat.le_refl _))); clear hb; clear c10 c11 c12 c13 c20 c21 c22 c23 c30 c31 c32 c33; replace q1 := Q1.out.below hb0 (Nat.le_refl _); obtain ⟨c10, c11, c12, c13⟩ := (X1.out.below hb0 (Nat.le_refl _)).cells; replace q2 := Q2.out.below hb0 (Nat.le_refl _); obtain ⟨c20, c21, c22, c23⟩ := (X2.out.below hb0 (Nat.le_refl _)).cells; replace q3 := Q3.out.below hb0 (Nat.le_refl _); obtain ⟨c30, c31, c32, c33⟩ := (X3.out.below hb0 (Nat.le_refl _)).cells) | ((with_reducible refine (OPlus.out _ _ (y) (x) _ (chain1 HB.out hb0) q2 q1 Zq_y.out Zq_x.out).mono ?_); rintro e V4 ⟨v_q_29, rfl, q_29, hb⟩; rw [Eq_LyPxR.out] at q_29; obtain ⟨s_q_29, a_q_29, b_q_29, p_q_29, rfl⟩ := q_29.form; replace hb0 : Below W0.heap.size W0 V4 := chain1 hb0 hb; (try (replace q_26 := q_26.below hb (Nat.le_refl _))); (try (replace q_35 := q_35.below hb (Nat.le_refl _))); (try (replace q_38 := q_38.below hb (Nat.le_refl _))); (try (replace q_45 := q_45.below hb (Nat.le_refl _))); (try (replace q_47 := q_47.below hb (Nat.le_refl _))); (try (replace q_51 := q_51.below hb (Nat.le_refl _))); (try (replace q_52 := q_52.below hb (Nat.le_refl _))); (try (replace q_61 := q_61.below hb (Nat.le_refl _))); (try (replace q_65 := q_65.below hb (Nat.le_refl _))); (try (replace q_66 := q_66.below hb (Nat.le_refl _))); (try (replace q_75 := q_75.below hb (Nat.le_refl _))); (try (replace q_78 := q_78.below hb (Nat.le_refl _))); (try (replace q_82 := q_82.below hb (Nat.le_refl _))); clear hb; clear c10 c11 c12 c13 c20 c21 c22 c23 c30 c31 c32 c33; replace q1 := Q1.out.below hb0 (Nat.le_refl _); obtain ⟨c10, c11, c12, c13⟩ := (X1.out.below hb0 (Nat.le_refl _)).cells; replace q2 := Q2.out.below hb0 (Nat.le_refl _); obtain ⟨c20, c21, c22, c23⟩ := (X2.out.below hb0 (Nat.le_refl _)).cells; replace q3 := Q3.out.below hb0 (Nat.le_refl _); obtain ⟨c30, c31, c32, c33⟩ := (X3.out.below hb0 (Nat.le_refl _)).cells) | ((with_reducible refine (OEq.out _ _ ((x + y)) _ q_26 q_29 Zq_LxPyR.out).mono ?_); rintro e V4 ⟨rfl, hb⟩; replace hb0 : Below W0.heap.size W0 V4 := chain1 hb0 hb; clear q_26; clear q_29; (try (replace q_35 := q_35.below hb (Nat.le_refl _))); (try (replace q_38 := q_38.below hb (Nat.le_refl _))); (try (replace q_45 := q_45.below hb (Nat.le_refl _))); (try (replace q_47 := q_47.below hb (Nat.le_refl _))); (try (replace q_51 := q_51.below hb (Nat.le_refl _))); (try (replace q_52 := q_52.below hb (Nat.le_refl _))); (try (replace q_61 := q_61.below hb (Nat.le_refl _))); (try (replace q_65 := q_65.below hb (Nat.le_refl _))); (try (replace q_66 := q_66.below hb (Nat.le_refl _))); (try (replace q_75 := q_75.below hb (Nat.le_refl _))); (try (replace q_78 := q_78.below hb (Nat.le_refl _))); (try (replace q_82 := q_82.below hb (Nat.le_refl _))); clear hb; clear c10 c11 c12 c13 c20 c21 c22 c23 c30 c31 c32 c33; replace q1 := Q1.out.below hb0 (Nat.le_refl _); obtain ⟨c10, c11, c12, c13⟩ := (X1.out.below hb0 (Nat.le_refl _)).cells; replace q2 := Q2.out.below hb0 (Nat.le_refl _); obtain ⟨c20, c21, c22, c23⟩ := (X2.out.below hb0 (Nat.le_refl _)).cells; replace q3 := Q3.out.below hb0 (Nat.le_refl _); obtain ⟨c30, c31, c32, c33⟩ := (X3.out.below hb0 (Nat.le_refl _)).cells) | ((with_reducible refine (OTimes.out _ _ (x) (y) _ (chain1 HB.out hb0) q1 q2 Zq_x.out Zq_y.out).mono ?_); rintro e V4 ⟨v_q_35, rfl, q_35, hb⟩; obtain ⟨s_q_35, a_q_35, b_q_35, p_q_35, rfl⟩ := q_35.form; replace hb0 : Below W0.heap.size W0 V4 := chain1 hb0 hb; (try (replace q_26 := q_26.below hb (Nat.le_refl _))); (try (replace q_29 := q_29.below hb (Nat.le_refl _))); (try (replace q_38 := q_38.below hb (Nat.le_refl _))); (try (replace q_45 := q_45.below hb (Nat.le_refl _))); (try (replace q_47 := q_47.below hb (Nat.le_refl _))); (try (replace q_51 := q_51.below hb (Nat.le_refl _))); (try (replace q_52 := q_52.below hb (Nat.le_refl _))); (try (replace q_61 := q_61.below hb (Nat.le_refl _))); (try (replace q_65 := q_65.below hb (Nat.le_refl _))); (try (replace q_66 := q_66.below hb (Nat.le_refl _))); (try (replace q_75 := q_75.below hb (Nat.le_refl _))); (try (replace q_78 := q_78.below hb (Nat.le_refl _))); (try (replace q_82 := q_82.below hb (Nat.le_refl _))); clear hb; clear c10 c11 c12 c13 c20 c21 c22 c23 c30 c31 c32 c33; replace q1 := Q1.out.below hb0 (Nat.le_refl _); obtain ⟨c10, c11, c12, c13⟩ := (X1.out.below hb0 (Nat.le_refl _)).cells; replace q2 := Q2.out.below hb0 (Nat.le_refl _); obtain ⟨c20, c21, c22, c23⟩ := (X2.out.below hb0 (Nat.le_refl _)).cells; replace q3 := Q3.out.below hb0 (Nat.le_refl _); obtain ⟨c30, c31, c32, c33⟩ := (X3.out.below hb0 (Nat.le_refl _)).cells) | ((with_reducible refine (OTimes.out _ _ (y) (x) _ (chain1 HB.out hb0) q2 q1 Zq_y.out Zq_x.out).mono ?_); rintro e V4 ⟨v_q_38, rfl, q_38, hb⟩; rw [Eq_LyTxR.out] at q_38; obtain ⟨s_q_38, a_q_38, b_q_38, p_q_38, rfl⟩ := q_38.form; replace hb0 : Below W0.heap.size W0 V4 := chain1 hb0 hb; (try (replace q_26 := q_26.below hb (Nat.le_refl _))); (try (replace q_29 := q_29.below hb (Nat.le_refl _))); (try (replace q_35 := q_35.below hb (Nat.le_refl _))); (try (replace q_45 := q_45.below hb (Nat.le_refl _))); (try (replace q_47 := q_47.below hb (Nat.le_refl _))); (try (replace q_51 := q_51.below hb (Nat.le_refl _))); (try (replace q_52 := q_52.below hb (Nat.le_refl _))); (try (replace q_61 := q_61.below hb (Nat.le_refl _))); (try (replace q_65 := q_65.below hb (Nat.le_refl _))); (try (replace q_66 := q_66.below hb (Nat.le_refl _))); (try (replace q_75 := q_75.below hb (Nat.le_refl _))); (try (replace q_78 := q_78.below hb (Nat.le_refl _))); (try (replace q_82 := q_82.below hb (Nat.le_refl _))); clear hb; clear c10 c11 c12 c13 c20 c21 c22 c23 c30 c31 c32 c33; replace q1 := Q1.out.below hb0 (Nat.le_refl _); obtain ⟨c10, c11, c12, c13⟩ := (X1.out.below hb0 (Nat.le_refl _)).cells; replace q2 := Q2.out.below hb0 (Nat.le_refl _); obtain ⟨c20, c21, c22, c23⟩ := (X2.out.below hb0 (Nat.le_refl _)).cells; replace q3 := Q3.out.below hb0 (Nat.le_refl _); obtain ⟨c30, c31, c32, c33⟩ := (X3.out.below hb0 (Nat.le_refl _)).cells) | ((with_reducible refine (OEq.out _ _ ((x * y)) _ q_35 q_38 Zq_LxTyR.out).mono ?_); rintro e V4 ⟨rfl, hb⟩; replace hb0 : Below W0.heap.size W0 V4 := chain1 hb0 hb; (try (replace q_26 := q_26.below hb (Nat.le_refl _))); (try (replace q_29 := q_29.below hb (Nat.le_refl _))); clear q_35; clear q_38; (try (replace q_45 := q_45.below hb (Nat.le_refl _))); (try (replace q_47 := q_47.below hb (Nat.le_refl _))); (try (replace q_51 := q_51.below hb (Nat.le_refl _))); (try (replace q_52 := q_52.below hb (Nat.le_refl _))); (try (replace q_61 := q_61.below hb (Nat.le_refl _))); (try (replace q_65 := q_65.below hb (Nat.le_refl _))); (try (replace q_66 := q_66.below hb (Nat.le_refl _))); (try (replace q_75 := q_75.below hb (Nat.le_refl _))); (try (replace q_78 := q_78.below hb (Nat.le_refl _))); (try (replace q_82 := q_82.below hb (Nat.le_refl _))); clear hb; clear c10 c11 c12 c13 c20 c21 c22 c23 c30 c31 c32 c33; replace q1 := Q1.out.below hb0 (Nat.le_refl _); obtain ⟨c10, c11, c12, c13⟩ := (X1.out.below hb0 (Nat.le_refl _)).cells; replace q2 := Q2.out.below hb0 (Nat.le_refl _); obtain ⟨c20, c21, c22, c23⟩ := (X2.out.below hb0 (Nat.le_refl _)).cells; replace q3 := Q3.out.below hb0 (Nat.le_refl _); obtain ⟨c30, c31, c32, c33⟩ := (X3.out.below hb0 (Nat.le_refl _)).cells) | ((with_reducible refine (OPlus.out _ _ (x) (y) _ (chain1 HB.out hb0) q1 q2 Zq_x.out Zq_y.out).mono ?_); rintro e V4 ⟨v_q_45, rfl, q_45, hb⟩; obtain ⟨s_q_45, a_q_45, b_q_45, p_q_45, rfl⟩ := q_45.form; replace hb0 : Below W0.heap.size W0 V4 := chain1 hb0 hb; (try (replace q_26 := q_26.below hb (Nat.le_refl _))); (try (replace q_29 := q_29.below hb (Nat.le_refl _))); (try (replace q_35 := q_35.below hb (Nat.le_refl _))); (try (replace q_38 := q_38.below hb (Nat.le_refl _))); (try (replace q_47 := q_47.below hb (Nat.le_refl _))); (try (replace q_51 := q_51.below hb (Nat.le_refl _))); (try (replace q_52 := q_52.below hb (Nat.le_refl _))); (try (replace q_61 := q_61.below hb (Nat.le_refl _))); (try (replace q_65 := q_65.below hb (Nat.le_refl _))); (try (replace q_66 := q_66.below hb (Nat.le_refl _))); (try (replace q_75 := q_75.below hb (Nat.le_refl _))); (try (replace q_78 := q_78.below hb (Nat.le_refl _))); (try (replace q_82 := q_82.below hb (Nat.le_refl _))); clear hb; clear c10 c11 c12 c13 c20 c21 c22 c23 c30 c31 c32 c33; replace q1 := Q1.out.below hb0 (Nat.le_refl _); obtain ⟨c10, c11, c12, c13⟩ := (X1.out.below hb0 (Nat.le_refl _)).cells; replace q2 := Q2.out.below hb0 (Nat.le_refl _); obtain ⟨c20, c21, c22, c23⟩ := (X2.out.below hb0 (Nat.le_refl _)).cells; replace q3 := Q3.out.below hb0 (Nat.le_refl _); obtain ⟨c30, c31, c32, c33⟩ := (X3.out.below hb0 (Nat.le_refl _)).cells) | ((with_reducible refine (OPlus.out _ _ ((x + y)) (z) _ (chain1 HB.out hb0) q_45 q3 Zq_LxPyR.out Zq_z.out).mono ?_); rintro e V4 ⟨v_q_47, rfl, q_47, hb⟩; obtain ⟨s_q_47, a_q_47, b_q_47, p_q_47, rfl⟩ := q_47.form; replace hb0 : Below W0.heap.size W0 V4 := chain1 hb0 hb; (try (replace q_26 := q_26.below hb (Nat.le_refl _))); (try (replace q_29 := q_29.below hb (Nat.le_refl _))); (try (replace q_35 := q_35.below hb (Nat.le_refl _))); (try (replace q_38 := q_38.below hb (Nat.le_refl _))); clear q_45; (try (replace q_51 := q_51.below hb (Nat.le_refl _))); (try (replace q_52 := q_52.below hb (Nat.le_refl _))); (try (replace q_61 := q_61.below hb (Nat.le_refl _))); (try (replace q_65 := q_65.below hb (Nat.le_refl _))); (try (replace q_66 := q_66.below hb (Nat.le_refl _))); (try (replace q_75 := q_75.below hb (Nat.le_refl _))); (try (replace q_78 := q_78.below hb (Nat.le_refl _))); (try (replace q_82 := q_82.below hb (Nat.le_refl _))); clear hb; clear c10 c11 c12 c13 c20 c21 c22 c23 c30 c31 c32 c33; replace q1 := Q1.out.below hb0 (Nat.le_refl _); obtain ⟨c10, c11, c12, c13⟩ := (X1.out.below hb0 (Nat.le_refl _)).cells; replace q2 := Q2.out.below hb0 (Nat.le_refl _); obtain ⟨c20, c21, c22, c23⟩ := (X2.out.below hb0 (Nat.le_refl _)).cells; replace q3 := Q3.out.below hb0 (Nat.le_refl _); obtain ⟨c30, c31, c32, c33⟩ := (X3.out.below hb0 (Nat.le_refl _)).cells) | ((with_reducible refine (OPlus.out _ _ (y) (z) _ (chain1 HB.out hb0) q2 q3 Zq_y.out Zq_z.out).mono ?_); rintro e V4 ⟨v_q_51, rfl, q_51, hb⟩; obtain ⟨s_q_51, a_q_51, b_q_51, p_q_51, rfl⟩ := q_51.form; replace hb0 : Below W0.heap.size W0 V4 := chain1 hb0 hb; (try (replace q_26 := q_26.below hb (Nat.le_refl _))); (try (replace q_29 := q_29.below hb (Nat.le_refl _))); (try (replace q_35 := q_35.below hb (Nat.le_refl _))); (try (replace q_38 := q_38.below hb (Nat.le_refl _))); (try (replace q_45 := q_45.below hb (Nat.le_refl _))); (try (replace q_47 := q_47.below hb (Nat.le_refl _))); (try (replace q_52 := q_52.below hb (Nat.le_refl _))); (try (replace q_61 := q_61.below hb (Nat.le_refl _))); (try (replace q_65 := q_65.below hb (Nat.le_refl _))); (try (replace q_66 := q_66.below hb (Nat.le_refl _))); (try (replace q_75 := q_75.below hb (Nat.le_refl _))); (try (replace q_78 := q_78.below hb (Nat.le_refl _))); (try (replace q_82 := q_82.below hb (Nat.le_refl _))); clear hb; clear c10 c11 c12 c13 c20 c21 c22 c23 c30 c31 c32 c33; replace q1 := Q1.out.below hb0 (Nat.le_refl _); obtain ⟨c10, c11, c12, c13⟩ := (X1.out.below hb0 (Nat.le_refl _)).cells; replace q2 := Q2.out.below hb0 (Nat.le_refl _); obtain ⟨c20, c21, c22, c23⟩ := (X2.out.below hb0 (Nat.le_refl _)).cells; replace q3 := Q3.out.below hb0 (Nat.le_refl _); obtain ⟨c30, c31, c32, c33⟩ := (X3.out.below hb0 (Nat.le_refl _)).cells) | ((with_reducible refine (OPlus.out _ _ (x) ((y + z)) _ (chain1 HB.out hb0) q1 q_51 Zq_x.out Zq_LyPzR.out).mono ?_); rintro e V4 ⟨v_q_52, rfl, q_52, hb⟩; rw [Eq_LxPLyPzRR.out] at q_52; obtain ⟨s_q_52, a_q_52, b_q_52, p_q_52, rfl⟩ := q_52.form; replace hb0 : Below W0.heap.size W0 V4 := chain1 hb0 hb; (try (replace q_26 := q_26.below hb (Nat.le_refl _))); (try (replace q_29 := q_29.below hb (Nat.le_refl _))); (try (replace q_35 := q_35.below hb (Nat.le_refl _))); (try (replace q_38 := q_38.below hb (Nat.le_refl _))); (try (replace q_45 := q_45.below hb (Nat.le_refl _))); (try (replace q_47 := q_47.below hb (Nat.le_refl _))); clear q_51; (try (replace q_61 := q_61.below hb (Nat.le_refl _))); (try (replace q_65 := q_65.below hb (Nat.le_refl _))); (try (replace q_66 := q_66.below hb (Nat.le_refl _))); (try (replace q_75 := q_75.below hb (Nat.le_refl _))); (try (replace q_78 := q_78.below hb (Nat.le_refl _))); (try (replace q_82 := q_82.below hb (Nat.le_refl _))); clear hb; clear c10 c11 c12 c13 c20 c21 c22 c23 c30 c31 c32 c33; replace q1 := Q1.out.below hb0 (Nat.le_refl _); obtain ⟨c10, c11, c12, c13⟩ := (X1.out.below hb0 (Nat.le_refl _)).cells; replace q2 := Q2.out.below hb0 (Nat.le_refl _); obtain ⟨c20, c21, c22, c23⟩ := (X2.out.below hb0 (Nat.le_refl _)).cells; replace q3 := Q3.out.below hb0 (Nat.le_refl _); obtain ⟨c30, c31, c32, c33⟩ := (X3.out.below hb0 (Nat.le_refl _)).cells) | ((with_reducible refine (OEq.out _ _ (((x + y) + z)) _ q_47 q_52 Zq_LLxPyRPzR.out).mono ?_); rintro e V4 ⟨rfl, hb⟩; replace hb0 : Below W0.heap.size W0 V4 := chain1 hb0 hb; (try (replace q_26 := q_26.below hb (Nat.le_refl _))); (try (replace q_29 := q_29.below hb (Nat.le_refl _))); (try (replace q_35 := q_35.below hb (Nat.le_refl _))); (try (replace q_38 := q_38.below hb (Nat.le_refl _))); (try (replace q_45 := q_45.below hb (Nat.le_refl _))); clear q_47; (try (replace q_51 := q_51.below hb (Nat.le_refl _))); clear q_52; (try (replace q_61 := q_61.below hb (Nat.le_refl _))); (try (replace q_65 := q_65.below hb (Nat.le_refl _))); (try (replace q_66 := q_66.below hb (Nat.le_refl _))); (try (replace q_75 := q_75.below hb (Nat.le_refl _))); (try (replace q_78 := q_78.below hb (Nat.le_refl _))); (try (replace q_82 := q_82.below hb (Nat.le_refl _))); clear hb; clear c10 c11 c12 c13 c20 c21 c22 c23 c30 c31 c32 c33; replace q1 := Q1.out.below hb0 (Nat.le_refl _); obtain ⟨c10, c11, c12, c13⟩ := (X1.out.below hb0 (Nat.le_refl _)).cells; replace q2 := Q2.out.below hb0 (Nat.le_refl _); obtain ⟨c20, c21, c22, c23⟩ := (X2.out.below hb0 (Nat.le_refl _)).cells; replace q3 := Q3.out.below hb0 (Nat.le_refl _); obtain ⟨c30, c31, c32, c33⟩ := (X3.out.below hb0 (Nat.le_refl _)).cells) | ((with_reducible refine (OTimes.out _ _ ((x * y)) (z) _ (chain1 HB.out hb0) q_35 q3 Zq_LxTyR.out Zq_z.out).mono ?_); rintro e V4 ⟨v_q_61, rfl, q_61, hb⟩; obtain ⟨s_q_61, a_q_61, b_q_61, p_q_61, rfl⟩ := q_61.form; replace hb0 : Below W0.heap.size W0 V4 := chain1 hb0 hb; (try (replace q_26 := q_26.below hb (Nat.le_refl _))); (try (replace q_29 := q_29.below hb (Nat.le_refl _))); clear q_35; (try (replace q_38 := q_38.below hb (Nat.le_refl _))); (try (replace q_45 := q_45.below hb (Nat.le_refl _))); (try (replace q_47 := q_47.below hb (Nat.le_refl _))); (try (replace q_51 := q_51.below hb (Nat.le_refl _))); (try (replace q_52 := q_52.below hb (Nat.le_refl _))); (try (replace q_65 := q_65.below hb (Nat.le_refl _))); (try (replace q_66 := q_66.below hb (Nat.le_refl _))); (try (replace q_75 := q_75.below hb (Nat.le_refl _))); (try (replace q_78 := q_78.below hb (Nat.le_refl _))); (try (replace q_82 := q_82.below hb (Nat.le_refl _))); clear hb; clear c10 c11 c12 c13 c20 c21 c22 c23 c30 c31 c32 c33; replace q1 := Q1.out.below hb0 (Nat.le_refl _); obtain ⟨c10, c11, c12, c13⟩ := (X1.out.below hb0 (Nat.le_refl _)).cells; replace q2 := Q2.out.below hb0 (Nat.le_refl _); obtain ⟨c20, c21, c22, c23⟩ := (X2.out.below hb0 (Nat.le_refl _)).cells; replace q3 := Q3.out.below hb0 (Nat.le_refl _); obtain ⟨c30, c31, c32, c33⟩ := (X3.out.below hb0 (Nat.le_refl _)).cells) | ((with_reducible refine (OTimes.out _ _ (y) (z) _ (chain1 HB.out hb0) q2 q3 Zq_y.out Zq_z.out).mono ?_); rintro e V4 ⟨v_q_65, rfl, q_65, hb⟩; obtain ⟨s_q_65, a_q_65, b_q_65, p_q_65, rfl⟩ := q_65.form; replace hb0 : Below W0.heap.size W0 V4 := chain1 hb0 hb; (try (replace q_26 := q_26.below hb (Nat.le_refl _))); (try (replace q_29 := q_29.below hb (Nat.le_refl _))); (try (replace q_35 := q_35.below hb (Nat.le_refl _))); (try (replace q_38 := q_38.below hb (Nat.le_refl _))); (try (replace q_45 := q_45.below hb (Nat.le_refl _))); (try (replace q_47 := q_47.below hb (Nat.le_refl _))); (try (replace q_51 := q_51.below hb (Nat.le_refl _))); (try (replace q_52 := q_52.below hb (Nat.le_refl _))); (try (replace q_61 := q_61.below hb (Nat.le_refl _))); (try (replace q_66 := q_66.below hb (Nat.le_refl _))); (try (replace q_75 := q_75.below hb (Nat.le_refl _))); (try (replace q_78 := q_78.below hb (Nat.le_refl _))); (try (replace q_82 := q_82.below hb (Nat.le_refl _))); clear hb; clear c10 c11 c12 c13 c20 c21 c22 c23 c30 c31 c32 c33; replace q1 := Q1.out.below hb0 (Nat.le_refl _); obtain ⟨c10, c11, c12, c13⟩ := (X1.out.below hb0 (Nat.le_refl _)).cells; replace q2 := Q2.out.below hb0 (Nat.le_refl _); obtain ⟨c20, c21, c22, c23⟩ := (X2.out.below hb0 (Nat.le_refl _)).cells; replace q3 := Q3.out.below hb0 (Nat.le_refl _); obtain ⟨c30, c31, c32, c33⟩ := (X3.out.below hb0 (Nat.le_refl _)).cells) | ((with_reducible refine (OTimes.out _ _ (x) ((y * z)) _ (chain1 HB.out hb0) q1 q_65 Zq_x.out Zq_LyTzR.out).mono ?_); rintro e V4 ⟨v_q_66, rfl, q_66, hb⟩; rw [Eq_LxTLyTzRR.out] at q_66; obtain ⟨s_q_66, a_q_66, b_q_66, p_q_66, rfl⟩ := q_66.form; replace hb0 : Below W0.heap.size W0 V4 := chain1 hb0 hb; (try (replace q_26 := q_26.below hb (Nat.le_refl _))); (try (replace q_29 := q_29.below hb (Nat.le_refl _))); (try (replace q_35 := q_35.below hb (Nat.le_refl _))); (try (replace q_38 := q_38.below hb (Nat.le_refl _))); (try (replace q_45 := q_45.below hb (Nat.le_refl _))); (try (replace q_47 := q_47.below hb (Nat.le_refl _))); (try (replace q_51 := q_51.below hb (Nat.le_refl _))); (try (replace q_52 := q_52.below hb (Nat.le_refl _))); (try (replace q_61 := q_61.below hb (Nat.le_refl _))); clear q_65; (try (replace q_75 := q_75.below hb (Nat.le_refl _))); (try (replace q_78 := q_78.below hb (Nat.le_refl _))); (try (replace q_82 := q_82.below hb (Nat.le_refl _))); clear hb; clear c10 c11 c12 c13 c20 c21 c22 c23 c30 c31 c32 c33; replace q1 := Q1.out.below hb0 (Nat.le_refl _); obtain ⟨c10, c11, c12, c13⟩ := (X1.out.below hb0 (Nat.le_refl _)).cells; replace q2 := Q2.out.below hb0 (Nat.le_refl _); obtain ⟨c20, c21, c22, c23⟩ := (X2.out.below hb0 (Nat.le_refl _)).cells; replace q3 := Q3.out.below hb0 (Nat.le_refl _); obtain ⟨c30, c31, c32, c33⟩ := (X3.out.below hb0 (Nat.le_refl _)).cells) | ((with_reducible refine (OEq.out _ _ (((x * y) * z)) _ q_61 q_66 Zq_LLxTyRTzR.out).mono ?_); rintro e V4 ⟨rfl, hb⟩; replace hb0 : Below W0.heap.size W0 V4 := chain1 hb0 hb; (try (replace q_26 := q_26.below hb (Nat.le_refl _))); (try (replace q_29 := q_29.below hb (Nat.le_refl _))); (try (replace q_35 := q_35.below hb (Nat.le_refl _))); (try (replace q_38 := q_38.below hb (Nat.le_refl _))); (try (replace q_45 := q_45.below hb (Nat.le_refl _))); (try (replace q_47 := q_47.below hb (Nat.le_refl _))); (try (replace q_51 := q_51.below hb (Nat.le_refl _))); (try (replace q_52 := q_52.below hb (Nat.le_refl _))); clear q_61; (try (replace q_65 := q_65.below hb (Nat.le_refl _))); clear q_66; (try (replace q_75 := q_75.below hb (Nat.le_refl _))); (try (replace q_78 := q_78.below hb (Nat.le_refl _))); (try (replace q_82 := q_82.below hb (Nat.le_refl _))); clear hb; clear c10 c11 c12 c13 c20 c21 c22 c23 c30 c31 c32 c33; replace q1 := Q1.out.below hb0 (Nat.le_refl _); obtain ⟨c10, c11, c12, c13⟩ := (X1.out.below hb0 (Nat.le_refl _)).cells; replace q2 := Q2.out.below hb0 (Nat.le_refl _); obtain ⟨c20, c21, c22, c23⟩ := (X2.out.below hb0 (Nat.le_refl _)).cells; replace q3 := Q3.out.below hb0 (Nat.le_refl _); obtain ⟨c30, c31, c32, c33⟩ := (X3.out.below hb0 (Nat.le_refl _)).cells) | ((with_reducible refine (OTimes.out _ _ ((x + y)) (z) _ (chain1 HB.out hb0) q_45 q3 Zq_LxPyR.out Zq_z.out).mono ?_); rintro e V4 ⟨v_q_75, rfl, q_75, hb⟩; obtain ⟨s_q_75, a_q_75, b_q_75, p_q_75, rfl⟩ := q_75.form; replace hb0 : Below W0.heap.size W0 V4 := chain1 hb0 hb; (try (replace q_26 := q_26.below hb (Nat.le_refl _))); (try (replace q_29 := q_29.below hb (Nat.le_refl _))); (try (replace q_35 := q_35.below hb (Nat.le_refl _))); (try (replace q_38 := q_38.below hb (Nat.le_refl _))); clear q_45; (try (replace q_47 := q_47.below hb (Nat.le_refl _))); (try (replace q_51 := q_51.below hb (Nat.le_refl _))); (try (replace q_52 := q_52.below hb (Nat.le_refl _))); (try (replace q_61 := q_61.below hb (Nat.le_refl _))); (try (replace q_65 := q_65.below hb (Nat.le_refl _))); (try (replace q_66 := q_66.below hb (Nat.le_refl _))); (try (replace q_78 := q_78.below hb (Nat.le_refl _))); (try (replace q_82 := q_82.below hb (Nat.le_refl _))); clear hb; clear c10 c11 c12 c13 c20 c21 c22 c23 c30 c31 c32 c33; replace q1 := Q1.out.below hb0 (Nat.le_refl _); obtain ⟨c10, c11, c12, c13⟩ := (X1.out.below hb0 (Nat.le_refl _)).cells; replace q2 := Q2.out.below hb0 (Nat.le_refl _); obtain ⟨c20, c21, c22, c23⟩ := (X2.out.below hb0 (Nat.le_refl _)).cells; replace q3 := Q3.out.below hb0 (Nat.le_refl _); obtain ⟨c30, c31, c32, c33⟩ := (X3.out.below hb0 (Nat.le_refl _)).cells) | ((with_reducible refine (OTimes.out _ _ (x) (z) _ (chain1 HB.out hb0) q1 q3 Zq_x.out Zq_z.out).mono ?_); rintro e V4 ⟨v_q_78, rfl, q_78, hb⟩; obtain ⟨s_q_78, a_q_78, b_q_78, p_q_78, rfl⟩ := q_78.form; replace hb0 : Below W0.heap.size W0 V4 := chain1 hb0 hb; (try (replace q_26 := q_26.below hb (Nat.le_refl _))); (try (replace q_29 := q_29.below hb (Nat.le_refl _))); (try (replace q_35 := q_35.below hb (Nat.le_refl _))); (try (replace q_38 := q_38.below hb (Nat.le_refl _))); (try (replace q_45 := q_45.below hb (Nat.le_refl _))); (try (replace q_47 := q_47.below hb (Nat.le_refl _))); (try (replace q_51 := q_51.below hb (Nat.le_refl _))); (try (replace q_52 := q_52.below hb (Nat.le_refl _))); (try (replace q_61 := q_61.below hb (Nat.le_refl _))); (try (replace q_65 := q_65.below hb (Nat.le_refl _))); (try (replace q_66 := q_66.below hb (Nat.le_refl _))); (try (replace q_75 := q_75.below hb (Nat.le_refl _))); (try (replace q_82 := q_82.below hb (Nat.le_refl _))); clear hb; clear c10 c11 c12 c13 c20 c21 c22 c23 c30 c31 c32 c33; replace q1 := Q1.out.below hb0 (Nat.le_refl _); obtain ⟨c10, c11, c12, c13⟩ := (X1.out.below hb0 (Nat.le_refl _)).cells; replace q2 := Q2.out.below hb0 (Nat.le_refl _); obtain ⟨c20, c21, c22, c23⟩ := (X2.out.below hb0 (Nat.le_refl _)).cells; replace q3 := Q3.out.below hb0 (Nat.le_refl _); obtain ⟨c30, c31, c32, c33⟩ := (X3.out.below hb0 (Nat.le_refl _)).cells) | ((with_reducible refine (OPlus.out _ _ ((x * z)) ((y * z)) _ (chain1 HB.out hb0) q_78 q_65 Zq_LxTzR.out Zq_LyTzR.out).mono ?_); rintro e V4 ⟨v_q_82, rfl, q_82, hb⟩; rw [Eq_LLxTzRPLyTzRR.out] at q_82; obtain ⟨s_q_82, a_q_82, b_q_82, p_q_82, rfl⟩ := q_82.form; replace hb0 : Below W0.heap.size W0 V4 := chain1 hb0 hb; (try (replace q_26 := q_26.below hb (Nat.le_refl _))); (try (replace q_29 := q_29.below hb (Nat.le_refl _))); (try (replace q_35 := q_35.below hb (Nat.le_refl _))); (try (replace q_38 := q_38.below hb (Nat.le_refl _))); (try (replace q_45 := q_45.below hb (Nat.le_refl _))); (try (replace q_47 := q_47.below hb (Nat.le_refl _))); (try (replace q_51 := q_51.below hb (Nat.le_refl _))); (try (replace q_52 := q_52.below hb (Nat.le_refl _))); (try (replace q_61 := q_61.below hb (Nat.le_refl _))); clear q_65; (try (replace q_66 := q_66.below hb (Nat.le_refl _))); (try (replace q_75 := q_75.below hb (Nat.le_refl _))); clear q_78; clear hb; clear c10 c11 c12 c13 c20 c21 c22 c23 c30 c31 c32 c33; replace q1 := Q1.out.below hb0 (Nat.le_refl _); obtain ⟨c10, c11, c12, c13⟩ := (X1.out.below hb0 (Nat.le_refl _)).cells; replace q2 := Q2.out.below hb0 (Nat.le_refl _); obtain ⟨c20, c21, c22, c23⟩ := (X2.out.below hb0 (Nat.le_refl _)).cells; replace q3 := Q3.out.below hb0 (Nat.le_refl _); obtain ⟨c30, c31, c32, c33⟩ := (X3.out.below hb0 (Nat.le_refl _)).cells) | ((with_reducible refine (OEq.out _ _ (((x + y) * z)) _ q_75 q_82 Zq_LLxPyRTzR.out).mono ?_); rintro e V4 ⟨rfl, hb⟩; replace hb0 : Below W0.heap.size W0 V4 := chain1 hb0 hb; (try (replace q_26 := q_26.below hb (Nat.le_refl _))); (try (replace q_29 := q_29.below hb (Nat.le_refl _))); (try (replace q_35 := q_35.below hb (Nat.le_refl _))); (try (replace q_38 := q_38.below hb (Nat.le_refl _))); (try (replace q_45 := q_45.below hb (Nat.le_refl _))); (try (replace q_47 := q_47.below hb (Nat.le_refl _))); (try (replace q_51 := q_51.below hb (Nat.le_refl _))); (try (replace q_52 := q_52.below hb (Nat.le_refl _))); (try (replace q_61 := q_61.below hb (Nat.le_refl _))); (try (replace q_65 := q_65.below hb (Nat.le_refl _))); (try (replace q_66 := q_66.below hb (Nat.le_refl _))); clear q_75; (try (replace q_78 := q_78.below hb (Nat.le_refl _))); clear q_82; clear hb; clear c10 c11 c12 c13 c20 c21 c22 c23 c30 c31 c32 c33; replace q1 := Q1.out.below hb0 (Nat.le_refl _); obtain ⟨c10, c11, c12, c13⟩ := (X1.out.below hb0 (Nat.le_refl _)).cells; replace q2 := Q2.out.below hb0 (Nat.le_refl _); obtain ⟨c20, c21, c22, c23⟩ := (X2.out.below hb0 (Nat.le_refl _)).cells; replace q3 := Q3.out.below hb0 (Nat.le_refl _); obtain ⟨c30, c31, c32, c33⟩ := (X3.out.below hb0 (Nat.le_refl _)).cells) | fail)
    clear c10 c11 c12 c13 c20 c21 c22 c23 c30 c31 c32 c33
    have HB := Lib.hid (chain1 HB.out hb0)
    have Q1 := Lib.hid (Q1.out.below hb0 (Nat.le_refl _))
    have X1 := Lib.hid (X1.out.below hb0 (Nat.le_refl _))
    clear q1
    have Q2 := Lib.hid (Q2.out.below hb0 (Nat.le_refl _))
    have X2 := Lib.hid (X2.out.below hb0 (Nat.le_refl _))
    clear q2
    have Q3 := Lib.hid (Q3.out.below hb0 (Nat.le_refl _))
    have X3 := Lib.hid (X3.out.below hb0 (Nat.le_refl _))
    clear q3
    go_upto_region 6 with fail
    have hb0 := Below.refl V4.heap.size V4
    have q1 := Q1.out
    obtain ⟨c10, c11, c12, c13⟩ := X1.out.cells
    have q2 := Q2.out
    obtain ⟨c20, c21, c22, c23⟩ := X2.out.cells
    have q3 := Q3.out
    obtain ⟨c30, c31, c32, c33⟩ := X3.out.cells
    go_region_held3 (fun w' => (w'.cell? ⟨n, 0, none⟩ = some (.bool s1) ∧ w'.cell? ⟨n, 1, none⟩ = some (u a1) ∧ w'.cell? ⟨n, 2, none⟩ = some (u b1) ∧ w'.cell? ⟨n, 3, none⟩ = some (.pointer p1)) ∧ (w'.cell? ⟨n + 1, 0, none⟩ = some (.bool s2) ∧ w'.cell? ⟨n + 1, 1, none⟩ = some (u a2) ∧ w'.cell? ⟨n + 1, 2, none⟩ = some (u b2) ∧ w'.cell? ⟨n + 1, 3, none⟩ = some (.pointer p2)) ∧ (w'.cell? ⟨n + 1 + 1, 0, none⟩ = some (.bool s3) ∧ w'.cell? ⟨n + 1 + 1, 1, none⟩ = some (u a3) ∧ w'.cell? ⟨n + 1 + 1, 2, none⟩ = some (u b3) ∧ w'.cell? ⟨n + 1 + 1, 3, none⟩ = some (.pointer p3))) (go_keep) (first | ((with_reducible refine (OMinus.out _ _ (x) (y) _ (chain1 HB.out hb0.drew) q1.drewn q2.drewn Zq_x.out Zq_y.out).mono ?_); rintro e V6 ⟨v_q_88, rfl, q_88, hb⟩; obtain ⟨s_q_88, a_q_88, b_q_88, p_q_88, rfl⟩ := q_88.form; replace hb0 : Below V4.heap.size V4 V6 := chain hb0 hb; (try (replace q_90 := q_90.below hb (Nat.le_refl _))); (try (replace q_97 := q_97.below hb (Nat.le_refl _))); (try (replace q_98 := q_98.below hb (Nat.le_refl _))); (try (replace q_105 := q_105.below hb (Nat.le_refl _))); (try (replace q_112 := q_112.below hb (Nat.le_refl _))); (try (replace q_113 := q_113.below hb (Nat.le_refl _))); clear hb; clear c10 c11 c12 c13 c20 c21 c22 c23 c30 c31 c32 c33; replace q1 := Q1.out.below hb0 (Nat.le_refl _); obtain ⟨c10, c11, c12, c13⟩ := (X1.out.below hb0 (Nat.le_refl _)).cells; replace q2 := Q2.out.below hb0 (Nat.le_refl _); obtain ⟨c20, c21, c22, c23⟩ := (X2.out.below hb0 (Nat.le_refl _)).cells; replace q3 := Q3.out.below hb0 (Nat.le_refl _); obtain ⟨c30, c31, c32, c33⟩ := (X3.out.below hb0 (Nat.le_refl _)).cells) | ((with_reducible refine (OPlus.out _ _ ((x - y)) (y) _ (chain1 HB.out hb0) q_88 q2 Zq_LxMyR.out Zq_y.out).mono ?_); rintro e V6 ⟨v_q_90, rfl, q_90, hb⟩; rw [Eq_LLxMyRPyR.out] at q_90; obtain ⟨s_q_90, a_q_90, b_q_90, p_q_90, rfl⟩ := q_90.form; replace hb0 : Below V4.heap.size V4 V6 := chain1 hb0 hb; clear q_88; (try (replace q_97 := q_97.below hb (Nat.le_refl _))); (try (replace q_98 := q_98.below hb (Nat.le_refl _))); (try (replace q_105 := q_105.below hb (Nat.le_refl _))); (try (replace q_112 := q_112.below hb (Nat.le_refl _))); (try (replace q_113 := q_113.below hb (Nat.le_refl _))); clear hb; clear c10 c11 c12 c13 c20 c21 c22 c23 c30 c31 c32 c33; replace q1 := Q1.out.below hb0 (Nat.le_refl _); obtain ⟨c10, c11, c12, c13⟩ := (X1.out.below hb0 (Nat.le_refl _)).cells; replace q2 := Q2.out.below hb0 (Nat.le_refl _); obtain ⟨c20, c21, c22, c23⟩ := (X2.out.below hb0 (Nat.le_refl _)).cells; replace q3 := Q3.out.below hb0 (Nat.le_refl _); obtain ⟨c30, c31, c32, c33⟩ := (X3.out.below hb0 (Nat.le_refl _)).cells) | ((with_reducible refine (OEq.out _ _ (x) _ q_90 q1 Zq_x.out).mono ?_); rintro e V6 ⟨rfl, hb⟩; replace hb0 : Below V4.heap.size V4 V6 := chain1 hb0 hb; (try (replace q_88 := q_88.below hb (Nat.le_refl _))); clear q_90; (try (replace q_97 := q_97.below hb (Nat.le_refl _))); (try (replace q_98 := q_98.below hb (Nat.le_refl _))); (try (replace q_105 := q_105.below hb (Nat.le_refl _))); (try (replace q_112 := q_112.below hb (Nat.le_refl _))); (try (replace q_113 := q_113.below hb (Nat.le_refl _))); clear hb; clear c10 c11 c12 c13 c20 c21 c22 c23 c30 c31 c32 c33; replace q1 := Q1.out.below hb0 (Nat.le_refl _); obtain ⟨c10, c11, c12, c13⟩ := (X1.out.below hb0 (Nat.le_refl _)).cells; replace q2 := Q2.out.below hb0 (Nat.le_refl _); obtain ⟨c20, c21, c22, c23⟩ := (X2.out.below hb0 (Nat.le_refl _)).cells; replace q3 := Q3.out.below hb0 (Nat.le_refl _); obtain ⟨c30, c31, c32, c33⟩ := (X3.out.below hb0 (Nat.le_refl _)).cells) | ((with_reducible refine (ONeg.out _ (x) _ q1).mono ?_); rintro e V6 ⟨v_q_97, rfl, q_97, hb⟩; obtain ⟨s_q_97, a_q_97, b_q_97, p_q_97, rfl⟩ := q_97.form; replace hb0 : Below V4.heap.size V4 V6 := chain1 hb0 hb; (try (replace q_88 := q_88.below hb (Nat.le_refl _))); (try (replace q_90 := q_90.below hb (Nat.le_refl _))); (try (replace q_98 := q_98.below hb (Nat.le_refl _))); (try (replace q_105 := q_105.below hb (Nat.le_refl _))); (try (replace q_112 := q_112.below hb (Nat.le_refl _))); (try (replace q_113 := q_113.below hb (Nat.le_refl _))); clear hb; clear c10 c11 c12 c13 c20 c21 c22 c23 c30 c31 c32 c33; replace q1 := Q1.out.below hb0 (Nat.le_refl _); obtain ⟨c10, c11, c12, c13⟩ := (X1.out.below hb0 (Nat.le_refl _)).cells; replace q2 := Q2.out.below hb0 (Nat.le_refl _); obtain ⟨c20, c21, c22, c23⟩ := (X2.out.below hb0 (Nat.le_refl _)).cells; replace q3 := Q3.out.below hb0 (Nat.le_refl _); obtain ⟨c30, c31, c32, c33⟩ := (X3.out.below hb0 (Nat.le_refl _)).cells) | ((with_reducible refine (OPlus.out _ _ (x) ((-x)) _ (chain1 HB.out hb0) q1 q_97 Zq_x.out Zq_LMxR.out).mono ?_); rintro e V6 ⟨v_q_98, rfl, q_98, hb⟩; rw [Eq_LxPLMxRR.out] at q_98; obtain ⟨s_q_98, a_q_98, b_q_98, p_q_98, rfl⟩ := q_98.form; replace hb0 : Below V4.heap.size V4 V6 := chain1 hb0 hb; (try (replace q_88 := q_88.below hb (Nat.le_refl _))); (try (replace q_90 := q_90.below hb (Nat.le_refl _))); clear q_97; (try (replace q_105 := q_105.below hb (Nat.le_refl _))); (try (replace q_112 := q_112.below hb (Nat.le_refl _))); (try (replace q_113 := q_113.below hb (Nat.le_refl _))); clear hb; clear c10 c11 c12 c13 c20 c21 c22 c23 c30 c31 c32 c33; replace q1 := Q1.out.below hb0 (Nat.le_refl _); obtain ⟨c10, c11, c12, c13⟩ := (X1.out.below hb0 (Nat.le_refl _)).cells; replace q2 := Q2.out.below hb0 (Nat.le_refl _); obtain ⟨c20, c21, c22, c23⟩ := (X2.out.below hb0 (Nat.le_refl _)).cells; replace q3 := Q3.out.below hb0 (Nat.le_refl _); obtain ⟨c30, c31, c32, c33⟩ := (X3.out.below hb0 (Nat.le_refl _)).cells) | ((with_reducible refine (OSign0.out _ _ q_98).mono ?_); rintro e V6 ⟨rfl, hb⟩; replace hb0 : Below V4.heap.size V4 V6 := chain1 hb0 hb; (try (replace q_88 := q_88.below hb (Nat.le_refl _))); (try (replace q_90 := q_90.below hb (Nat.le_refl _))); (try (replace q_97 := q_97.below hb (Nat.le_refl _))); clear q_98; (try (replace q_105 := q_105.below hb (Nat.le_refl _))); (try (replace q_112 := q_112.below hb (Nat.le_refl _))); (try (replace q_113 := q_113.below hb (Nat.le_refl _))); clear hb; clear c10 c11 c12 c13 c20 c21 c22 c23 c30 c31 c32 c33; replace q1 := Q1.out.below hb0 (Nat.le_refl _); obtain ⟨c10, c11, c12, c13⟩ := (X1.out.below hb0 (Nat.le_refl _)).cells; replace q2 := Q2.out.below hb0 (Nat.le_refl _); obtain ⟨c20, c21, c22, c23⟩ := (X2.out.below hb0 (Nat.le_refl _)).cells; replace q3 := Q3.out.below hb0 (Nat.le_refl _); obtain ⟨c30, c31, c32, c33⟩ := (X3.out.below hb0 (Nat.le_refl _)).cells) | ((with_reducible refine (OPlus.out _ _ (x) (0) _ (chain1 HB.out hb0) q1 (zero_val _) Zq_x.out Zq_0.out).mono ?_); rintro e V6 ⟨v_q_105, rfl, q_105, hb⟩; rw [Eq_LxP0R.out] at q_105; obtain ⟨s_q_105, a_q_105, b_q_105, p_q_105, rfl⟩ := q_105.form; replace hb0 : Below V4.heap.size V4 V6 := chain1 hb0 hb; (try (replace q_88 := q_88.below hb (Nat.le_refl _))); (try (replace q_90 := q_90.below hb (Nat.le_refl _))); (try (replace q_97 := q_97.below hb (Nat.le_refl _))); (try (replace q_98 := q_98.below hb (Nat.le_refl _))); (try (replace q_112 := q_112.below hb (Nat.le_refl _))); (try (replace q_113 := q_113.below hb (Nat.le_refl _))); clear hb; clear c10 c11 c12 c13 c20 c21 c22 c23 c30 c31 c32 c33; replace q1 := Q1.out.below hb0 (Nat.le_refl _); obtain ⟨c10, c11, c12, c13⟩ := (X1.out.below hb0 (Nat.le_refl _)).cells; replace q2 := Q2.out.below hb0 (Nat.le_refl _); obtain ⟨c20, c21, c22, c23⟩ := (X2.out.below hb0 (Nat.le_refl _)).cells; replace q3 := Q3.out.below hb0 (Nat.le_refl _); obtain ⟨c30, c31, c32, c33⟩ := (X3.out.below hb0 (Nat.le_refl _)).cells) | ((with_reducible refine (OEq.out _ _ (x) _ q_105 q1 Zq_x.out).mono ?_); rintro e V6 ⟨rfl, hb⟩; replace hb0 : Below V4.heap.size V4 V6 := chain1 hb0 hb; (try (replace q_88 := q_88.below hb (Nat.le_refl _))); (try (replace q_90 := q_90.below hb (Nat.le_refl _))); (try (replace q_97 := q_97.below hb (Nat.le_refl _))); (try (replace q_98 := q_98.below hb (Nat.le_refl _))); clear q_105; (try (replace q_112 := q_112.below hb (Nat.le_refl _))); (try (replace q_113 := q_113.below hb (Nat.le_refl _))); clear hb; clear c10 c11 c12 c13 c20 c21 c22 c23 c30 c31 c32 c33; replace q1 := Q1.out.below hb0 (Nat.le_refl _); obtain ⟨c10, c11, c12, c13⟩ := (X1.out.below hb0 (Nat.le_refl _)).cells; replace q2 := Q2.out.below hb0 (Nat.le_refl _); obtain ⟨c20, c21, c22, c23⟩ := (X2.out.below hb0 (Nat.le_refl _)).cells; replace q3 := Q3.out.below hb0 (Nat.le_refl _); obtain ⟨c30, c31, c32, c33⟩ := (X3.out.below hb0 (Nat.le_refl _)).cells) | ((with_reducible refine (OOne.out _).mono ?_); rintro e V6 ⟨v_q_112, rfl, q_112, hb⟩; obtain ⟨s_q_112, a_q_112, b_q_112, p_q_112, rfl⟩ := q_112.form; replace hb0 : Below V4.heap.size V4 V6 := chain1 hb0 hb; (try (replace q_88 := q_88.below hb (Nat.le_refl _))); (try (replace q_90 := q_90.below hb (Nat.le_refl _))); (try (replace q_97 := q_97.below hb (Nat.le_refl _))); (try (replace q_98 := q_98.below hb (Nat.le_refl _))); (try (replace q_105 := q_105.below hb (Nat.le_refl _))); (try (replace q_113 := q_113.below hb (Nat.le_refl _))); clear hb; clear c10 c11 c12 c13 c20 c21 c22 c23 c30 c31 c32 c33; replace q1 := Q1.out.below hb0 (Nat.le_refl _); obtain ⟨c10, c11, c12, c13⟩ := (X1.out.below hb0 (Nat.le_refl _)).cells; replace q2 := Q2.out.below hb0 (Nat.le_refl _); obtain ⟨c20, c21, c22, c23⟩ := (X2.out.below hb0 (Nat.le_refl _)).cells; replace q3 := Q3.out.below hb0 (Nat.le_refl _); obtain ⟨c30, c31, c32, c33⟩ := (X3.out.below hb0 (Nat.le_refl _)).cells) | ((with_reducible refine (OTimes.out _ _ (x) (1) _ (chain1 HB.out hb0) q1 q_112 Zq_x.out Zq_1.out).mono ?_); rintro e V6 ⟨v_q_113, rfl, q_113, hb⟩; rw [Eq_LxT1R.out] at q_113; obtain ⟨s_q_113, a_q_113, b_q_113, p_q_113, rfl⟩ := q_113.form; replace hb0 : Below V4.heap.size V4 V6 := chain1 hb0 hb; (try (replace q_88 := q_88.below hb (Nat.le_refl _))); (try (replace q_90 := q_90.below hb (Nat.le_refl _))); (try (replace q_97 := q_97.below hb (Nat.le_refl _))); (try (replace q_98 := q_98.below hb (Nat.le_refl _))); (try (replace q_105 := q_105.below hb (Nat.le_refl _))); clear q_112; clear hb; clear c10 c11 c12 c13 c20 c21 c22 c23 c30 c31 c32 c33; replace q1 := Q1.out.below hb0 (Nat.le_refl _); obtain ⟨c10, c11, c12, c13⟩ := (X1.out.below hb0 (Nat.le_refl _)).cells; replace q2 := Q2.out.below hb0 (Nat.le_refl _); obtain ⟨c20, c21, c22, c23⟩ := (X2.out.below hb0 (Nat.le_refl _)).cells; replace q3 := Q3.out.below hb0 (Nat.le_refl _); obtain ⟨c30, c31, c32, c33⟩ := (X3.out.below hb0 (Nat.le_refl _)).cells) | ((with_reducible refine (OEq.out _ _ (x) _ q_113 q1 Zq_x.out).mono ?_); rintro e V6 ⟨rfl, hb⟩; replace hb0 : Below V4.heap.size V4 V6 := chain1 hb0 hb; (try (replace q_88 := q_88.below hb (Nat.le_refl _))); (try (replace q_90 := q_90.below hb (Nat.le_refl _))); (try (replace q_97 := q_97.below hb (Nat.le_refl _))); (try (replace q_98 := q_98.below hb (Nat.le_refl _))); (try (replace q_105 := q_105.below hb (Nat.le_refl _))); (try (replace q_112 := q_112.below hb (Nat.le_refl _))); clear q_113; clear hb; clear c10 c11 c12 c13 c20 c21 c22 c23 c30 c31 c32 c33; replace q1 := Q1.out.below hb0 (Nat.le_refl _); obtain ⟨c10, c11, c12, c13⟩ := (X1.out.below hb0 (Nat.le_refl _)).cells; replace q2 := Q2.out.below hb0 (Nat.le_refl _); obtain ⟨c20, c21, c22, c23⟩ := (X2.out.below hb0 (Nat.le_refl _)).cells; replace q3 := Q3.out.below hb0 (Nat.le_refl _); obtain ⟨c30, c31, c32, c33⟩ := (X3.out.below hb0 (Nat.le_refl _)).cells) | fail)
    clear c10 c11 c12 c13 c20 c21 c22 c23 c30 c31 c32 c33
    have HB := Lib.hid (chain1 HB.out hb0)
    have Q1 := Lib.hid (Q1.out.below hb0 (Nat.le_refl _))
    have X1 := Lib.hid (X1.out.below hb0 (Nat.le_refl _))
    clear q1
    have Q2 := Lib.hid (Q2.out.below hb0 (Nat.le_refl _))
    have X2 := Lib.hid (X2.out.below hb0 (Nat.le_refl _))
    clear q2
    have Q3 := Lib.hid (Q3.out.below hb0 (Nat.le_refl _))
    have X3 := Lib.hid (X3.out.below hb0 (Nat.le_refl _))
    clear q3
    go_wp2_with fail
    by_cases hy : y.num = 0
    · have hy0 : y = 0 := num_zero.1 hy
      refine (over_zero _ _ x y V6 Q1.out Q2.out hy).mono ?_
      rintro e V6b ⟨rfl, hb⟩
      have HB := Lib.hid (chain1 HB.out hb)
      have Q1 := Lib.hid (Q1.out.below hb (Nat.le_refl _))
      have X1 := Lib.hid (X1.out.below hb (Nat.le_refl _))
      have Q2 := Lib.hid (Q2.out.below hb (Nat.le_refl _))
      have X2 := Lib.hid (X2.out.below hb (Nat.le_refl _))
      have Q3 := Lib.hid (Q3.out.below hb (Nat.le_refl _))
      have X3 := Lib.hid (X3.out.below hb (Nat.le_refl _))
      clear hb
      subst hy0
      go_upto_region 9 with fail
      obtain ⟨V7, hW, hb, hB4, hs⟩ := nbox V6b V6b.heap.size rfl (.bool false) (.int .u64 0) (.int .u64 0) (.pointer none)
      rw [hW]; clear hW
      have HB := Lib.hid (chain1 HB.out hb)
      have Q1 := Lib.hid (Q1.out.below hb (Nat.le_refl _))
      have X1 := Lib.hid (X1.out.below hb (Nat.le_refl _))
      have Q2 := Lib.hid (Q2.out.below hb (Nat.le_refl _))
      have X2 := Lib.hid (X2.out.below hb (Nat.le_refl _))
      have Q3 := Lib.hid (Q3.out.below hb (Nat.le_refl _))
      have X3 := Lib.hid (X3.out.below hb (Nat.le_refl _))
      have X4 := Lib.hid hB4
      clear hb hB4 hs
      have hb0 := Below.refl V7.heap.size V7
      have q1 := Q1.out
      obtain ⟨c10, c11, c12, c13⟩ := X1.out.cells
      have q2 := Q2.out
      obtain ⟨c20, c21, c22, c23⟩ := X2.out.cells
      have q3 := Q3.out
      obtain ⟨c30, c31, c32, c33⟩ := X3.out.cells
      go_region_with (first | ((with_reducible refine (OSign0.out _ _ q2.drewn).mono ?_); rintro e V9 ⟨rfl, hb⟩; replace hb0 : Below V7.heap.size V7 V9 := chain hb0 hb; clear hb; clear c10 c11 c12 c13 c20 c21 c22 c23 c30 c31 c32 c33; replace q1 := Q1.out.below hb0 (Nat.le_refl _); obtain ⟨c10, c11, c12, c13⟩ := (X1.out.below hb0 (Nat.le_refl _)).cells; replace q2 := Q2.out.below hb0 (Nat.le_refl _); obtain ⟨c20, c21, c22, c23⟩ := (X2.out.below hb0 (Nat.le_refl _)).cells; replace q3 := Q3.out.below hb0 (Nat.le_refl _); obtain ⟨c30, c31, c32, c33⟩ := (X3.out.below hb0 (Nat.le_refl _)).cells) | ((with_reducible refine (HKn.out _ (chain1 HB.out hb0)).mono ?_); rintro e V9 ⟨rfl, hb⟩; replace hb0 : Below V7.heap.size V7 V9 := chain1 hb0 hb; clear hb; clear c10 c11 c12 c13 c20 c21 c22 c23 c30 c31 c32 c33; replace q1 := Q1.out.below hb0 (Nat.le_refl _); obtain ⟨c10, c11, c12, c13⟩ := (X1.out.below hb0 (Nat.le_refl _)).cells; replace q2 := Q2.out.below hb0 (Nat.le_refl _); obtain ⟨c20, c21, c22, c23⟩ := (X2.out.below hb0 (Nat.le_refl _)).cells; replace q3 := Q3.out.below hb0 (Nat.le_refl _); obtain ⟨c30, c31, c32, c33⟩ := (X3.out.below hb0 (Nat.le_refl _)).cells) | fail)
      all_goals (have HB := Lib.hid (chain1 HB.out hb0))
      all_goals go_wp2_with fail
      all_goals exact bodyPost_ret (v := .bool true) (by simp [results, Tryz.results9, go_sem]) rfl ⟨rfl, HB.out⟩
    · refine (OOver.out _ _ x y _ hy HB.out Q1.out Q2.out Zq_x.out Zq_y.out).mono ?_
      rintro e V6b ⟨v4, rfl, q4, hb⟩
      obtain ⟨s4, a4, b4, p4, rfl⟩ := q4.form
      have HB := Lib.hid (chain1 HB.out hb)
      have Q1 := Lib.hid (Q1.out.below hb (Nat.le_refl _))
      have X1 := Lib.hid (X1.out.below hb (Nat.le_refl _))
      have Q2 := Lib.hid (Q2.out.below hb (Nat.le_refl _))
      have X2 := Lib.hid (X2.out.below hb (Nat.le_refl _))
      have Q3 := Lib.hid (Q3.out.below hb (Nat.le_refl _))
      have X3 := Lib.hid (X3.out.below hb (Nat.le_refl _))
      clear hb
      have Q4 := Lib.hid q4
      clear q4
      have hsg : ¬ sign y = 0 := by unfold sign; rw [if_neg hy]; split <;> decide
      have Eq_LtTyR := Lib.hid (show (x / y) * y = x from Rat.div_mul_cancel (fun h => hy (num_zero.2 h)))
      have OSy := Lib.hid (fun v W (h : IsQ W v y) => o_sign v y W h)
      clear OSign
      have OSign := OSy
      generalize sign y = sg at *
      have k0 : (sg == 0) = false := by simpa using hsg
      have Zq_t := Lib.hid (show Sz (x / y) from Siz.sz (HZ1.out.div HZ2.out hy) (by omega))
      generalize x / y = t at *
      go_upto_region 9 with fail
      obtain ⟨V7, hW, hb, hB4, hs⟩ := nbox V6b V6b.heap.size rfl (.bool s4) (u a4) (u b4) (.pointer p4)
      rw [hW]; clear hW
      have HB := Lib.hid (chain1 HB.out hb)
      have Q1 := Lib.hid (Q1.out.below hb (Nat.le_refl _))
      have X1 := Lib.hid (X1.out.below hb (Nat.le_refl _))
      have Q2 := Lib.hid (Q2.out.below hb (Nat.le_refl _))
      have X2 := Lib.hid (X2.out.below hb (Nat.le_refl _))
      have Q3 := Lib.hid (Q3.out.below hb (Nat.le_refl _))
      have X3 := Lib.hid (X3.out.below hb (Nat.le_refl _))
      have X4 := Lib.hid hB4
      have Q4 := Lib.hid (Q4.out.below hb (Nat.le_refl _))
      clear hb hB4 hs
      generalize V6b.heap.size = n4 at *
      have hb0 := Below.refl V7.heap.size V7
      have q1 := Q1.out
      obtain ⟨c10, c11, c12, c13⟩ := X1.out.cells
      have q2 := Q2.out
      obtain ⟨c20, c21, c22, c23⟩ := X2.out.cells
      have q3 := Q3.out
      obtain ⟨c30, c31, c32, c33⟩ := X3.out.cells
      have q4 := Q4.out
      obtain ⟨c40, c41, c42, c43⟩ := X4.out.cells
      go_region_held3 (fun w' => (w'.cell? ⟨n, 0, none⟩ = some (.bool s1) ∧ w'.cell? ⟨n, 1, none⟩ = some (u a1) ∧ w'.cell? ⟨n, 2, none⟩ = some (u b1) ∧ w'.cell? ⟨n, 3, none⟩ = some (.pointer p1)) ∧ (w'.cell? ⟨n + 1, 0, none⟩ = some (.bool s2) ∧ w'.cell? ⟨n + 1, 1, none⟩ = some (u a2) ∧ w'.cell? ⟨n + 1, 2, none⟩ = some (u b2) ∧ w'.cell? ⟨n + 1, 3, none⟩ = some (.pointer p2)) ∧ (w'.cell? ⟨n + 1 + 1, 0, none⟩ = some (.bool s3) ∧ w'.cell? ⟨n + 1 + 1, 1, none⟩ = some (u a3) ∧ w'.cell? ⟨n + 1 + 1, 2, none⟩ = some (u b3) ∧ w'.cell? ⟨n + 1 + 1, 3, none⟩ = some (.pointer p3)) ∧ (w'.cell? ⟨n4, 0, none⟩ = some (.bool s4) ∧ w'.cell? ⟨n4, 1, none⟩ = some (u a4) ∧ w'.cell? ⟨n4, 2, none⟩ = some (u b4) ∧ w'.cell? ⟨n4, 3, none⟩ = some (.pointer p4))) (go_keep) (first | ((with_reducible refine (OSign.out _ _ q2.drewn).mono ?_); rintro e V9 ⟨rfl, hb⟩; replace hb0 : Below V7.heap.size V7 V9 := chain hb0 hb; (try (replace q_136 := q_136.below hb (Nat.le_refl _))); clear hb; clear c10 c11 c12 c13 c20 c21 c22 c23 c30 c31 c32 c33 c40 c41 c42 c43; replace q1 := Q1.out.below hb0 (Nat.le_refl _); obtain ⟨c10, c11, c12, c13⟩ := (X1.out.below hb0 (Nat.le_refl _)).cells; replace q2 := Q2.out.below hb0 (Nat.le_refl _); obtain ⟨c20, c21, c22, c23⟩ := (X2.out.below hb0 (Nat.le_refl _)).cells; replace q3 := Q3.out.below hb0 (Nat.le_refl _); obtain ⟨c30, c31, c32, c33⟩ := (X3.out.below hb0 (Nat.le_refl _)).cells; replace q4 := Q4.out.below hb0 (Nat.le_refl _); obtain ⟨c40, c41, c42, c43⟩ := (X4.out.below hb0 (Nat.le_refl _)).cells) | ((with_reducible refine (OTimes.out _ _ (t) (y) _ (chain1 HB.out hb0) q4 q2 Zq_t.out Zq_y.out).mono ?_); rintro e V9 ⟨v_q_136, rfl, q_136, hb⟩; rw [Eq_LtTyR.out] at q_136; obtain ⟨s_q_136, a_q_136, b_q_136, p_q_136, rfl⟩ := q_136.form; replace hb0 : Below V7.heap.size V7 V9 := chain1 hb0 hb; clear hb; clear c10 c11 c12 c13 c20 c21 c22 c23 c30 c31 c32 c33 c40 c41 c42 c43; replace q1 := Q1.out.below hb0 (Nat.le_refl _); obtain ⟨c10, c11, c12, c13⟩ := (X1.out.below hb0 (Nat.le_refl _)).cells; replace q2 := Q2.out.below hb0 (Nat.le_refl _); obtain ⟨c20, c21, c22, c23⟩ := (X2.out.below hb0 (Nat.le_refl _)).cells; replace q3 := Q3.out.below hb0 (Nat.le_refl _); obtain ⟨c30, c31, c32, c33⟩ := (X3.out.below hb0 (Nat.le_refl _)).cells; replace q4 := Q4.out.below hb0 (Nat.le_refl _); obtain ⟨c40, c41, c42, c43⟩ := (X4.out.below hb0 (Nat.le_refl _)).cells) | ((with_reducible refine (OEq.out _ _ (x) _ q_136 q1 Zq_x.out).mono ?_); rintro e V9 ⟨rfl, hb⟩; replace hb0 : Below V7.heap.size V7 V9 := chain1 hb0 hb; clear q_136; clear hb; clear c10 c11 c12 c13 c20 c21 c22 c23 c30 c31 c32 c33 c40 c41 c42 c43; replace q1 := Q1.out.below hb0 (Nat.le_refl _); obtain ⟨c10, c11, c12, c13⟩ := (X1.out.below hb0 (Nat.le_refl _)).cells; replace q2 := Q2.out.below hb0 (Nat.le_refl _); obtain ⟨c20, c21, c22, c23⟩ := (X2.out.below hb0 (Nat.le_refl _)).cells; replace q3 := Q3.out.below hb0 (Nat.le_refl _); obtain ⟨c30, c31, c32, c33⟩ := (X3.out.below hb0 (Nat.le_refl _)).cells; replace q4 := Q4.out.below hb0 (Nat.le_refl _); obtain ⟨c40, c41, c42, c43⟩ := (X4.out.below hb0 (Nat.le_refl _)).cells) | ((with_reducible refine (HKn.out _ (chain1 HB.out hb0)).mono ?_); rintro e V9 ⟨rfl, hb⟩; replace hb0 : Below V7.heap.size V7 V9 := chain1 hb0 hb; (try (replace q_136 := q_136.below hb (Nat.le_refl _))); clear hb; clear c10 c11 c12 c13 c20 c21 c22 c23 c30 c31 c32 c33 c40 c41 c42 c43; replace q1 := Q1.out.below hb0 (Nat.le_refl _); obtain ⟨c10, c11, c12, c13⟩ := (X1.out.below hb0 (Nat.le_refl _)).cells; replace q2 := Q2.out.below hb0 (Nat.le_refl _); obtain ⟨c20, c21, c22, c23⟩ := (X2.out.below hb0 (Nat.le_refl _)).cells; replace q3 := Q3.out.below hb0 (Nat.le_refl _); obtain ⟨c30, c31, c32, c33⟩ := (X3.out.below hb0 (Nat.le_refl _)).cells; replace q4 := Q4.out.below hb0 (Nat.le_refl _); obtain ⟨c40, c41, c42, c43⟩ := (X4.out.below hb0 (Nat.le_refl _)).cells) | fail)
      clear c10 c11 c12 c13 c20 c21 c22 c23 c30 c31 c32 c33 c40 c41 c42 c43
      have HB := Lib.hid (chain1 HB.out hb0)
      have Q1 := Lib.hid (Q1.out.below hb0 (Nat.le_refl _))
      have X1 := Lib.hid (X1.out.below hb0 (Nat.le_refl _))
      clear q1
      have Q2 := Lib.hid (Q2.out.below hb0 (Nat.le_refl _))
      have X2 := Lib.hid (X2.out.below hb0 (Nat.le_refl _))
      clear q2
      have Q3 := Lib.hid (Q3.out.below hb0 (Nat.le_refl _))
      have X3 := Lib.hid (X3.out.below hb0 (Nat.le_refl _))
      clear q3
      have Q4 := Lib.hid (Q4.out.below hb0 (Nat.le_refl _))
      have X4 := Lib.hid (X4.out.below hb0 (Nat.le_refl _))
      clear q4
      go_wp2_with fail
      exact bodyPost_ret (v := .bool true) (by simp [results, Tryz.results9, go_sem]) rfl ⟨rfl, HB.out⟩
end Go.Proofs.YtojploidgagmgaaGreatDoor

/- ExactField: the statement, out of the walk. -/
namespace Go.Proofs.YtojploidgagmgaaGreatDoor
open Go Go.RowKit Go.Proofs Lim
open Go.ChangeShapes Go.WideShapes Go.ChangeAt Go.ChangeMaps

namespace lawExactField

set_option maxRecDepth 100000 in
theorem contract (H : Type) (enc : TypeId × Value → H) (W : World) (base : Nat) (args : Array Value) (ds gs : List (DataW H)) (before : List MemPlace)
    (hval : ∀ (j : Nat) t v, Tryz.f9.params[j]? = some t → args[j]? = some v → Value.okWide Tryz.prog W .any base t v)
    (hW : DataW.Whole enc Tryz.prog Tryz.f9.params.toList Rows.exactFieldSpec.vars false W args.toList ds gs before) (hG : Gr W) :
    Calls Tryz.prog 9 args W fun e W' => ∃ v, e = .returned v ∧ Rows.exactFieldSpec.post enc Tryz.prog Tryz.f9 false true false false W args v W' := by
  have hW' := hW
  obtain ⟨p, q, hA0, hV, rfl, hfz, hnd⟩ := hW
  have hA : DataW.TrodAll enc Tryz.prog W 0 (fun _ => true) true Tryz.f9.params.toList args.toList ds p := hA0
  rw [Tryz.params9] at hA hval
  obtain ⟨v0, vs0, d0, ds0, p0, q0, hargs0, rfl, rfl, h0, r0⟩ := trodAll_cons hA
  obtain ⟨v1, vs1, d1, ds1, p1, q1, hargs1, rfl, rfl, h1, r1⟩ := trodAll_cons r0
  obtain ⟨v2, vs2, d2, ds2, p2, q2, hargs2, rfl, rfl, h2, r2⟩ := trodAll_cons r1
  obtain ⟨rfl, rfl, rfl⟩ := trodAll_nil r2
  obtain rfl : args = #[v0, v1, v2] := by cases args; simp_all
  obtain ⟨rfl, rfl⟩ := trodVars_none hV
  obtain ⟨s0, rfl, rfl, rfl, hs0⟩ := open_string Tryz.underlying9 (hval 0 9 v0 rfl rfl) h0
  obtain ⟨s1, rfl, rfl, rfl, hs1⟩ := open_string Tryz.underlying9 (hval 1 9 v1 rfl rfl) h1
  obtain ⟨s2, rfl, rfl, rfl, hs2⟩ := open_string Tryz.underlying9 (hval 2 9 v2 rfl rfl) h2
  clear hA0
  have walk := field_walk s0.data.toList s1.data.toList s2.data.toList W hG
  refine walk.mono fun e W' ⟨he, hb⟩ => ?_
  subst he
  refine ⟨_, rfl, _, _, _, [], [], [], hW', ?_, ?_, ?_, hb.frame _, fun h => by cases h⟩
  · exact trodAll_cons_mk (shut_bool Tryz.underlying4 _) trodAll_mk0
  · exact trodAll_cons_mk (shut_string Tryz.underlying9 hs0) (trodAll_cons_mk (shut_string Tryz.underlying9 hs1) (trodAll_cons_mk (shut_string Tryz.underlying9 hs2) (trodAll_mk0)))
  · trivial

theorem reads (os : Os) {H : Type} (enc : TypeId × Value → H) : ∃ places, DataW.whole enc Tryz.prog ((World.doorLaid Tryz.prog 400 os).forCall (fun _ _ => 0) ⟨#[], #[.string ⟨#[]⟩, .string ⟨#[]⟩, .string ⟨#[]⟩], []⟩).memory Tryz.f9.params.toList Rows.exactFieldSpec.vars false #[Value.string ⟨#[]⟩, Value.string ⟨#[]⟩, Value.string ⟨#[]⟩].toList 8 = some ([.lit (.string []), .lit (.string []), .lit (.string [])], [], places) :=
  ⟨[], by kernel_rfl⟩

set_option maxRecDepth 100000 in
theorem lifted (os : Os) (started : os.Started) (H : Type) (enc : TypeId × Value → H) (F : Stop.Interp) :
    ReturnsInHanded {} Tryz.checked os 9 .any ((OpenSpec.ofChange Rows.exactFieldSpec).preRow enc Tryz.prog Tryz.f9 Rows.exactFieldRow.domain false Rows.exactFieldRow.laid) (((OpenSpec.ofChange Rows.exactFieldSpec).at F).post enc Tryz.prog Tryz.f9 false true false false) := by
  obtain ⟨places, hx⟩ := reads os enc
  refine returnsInHanded_of_row (C := Tryz.checked) (s := OpenSpec.ofChange Rows.exactFieldSpec) own started (by kernel_rfl) Tryz.func9
    (witness_row_atRef (enc := enc) (C := Tryz.checked) false (World.doorLaid Tryz.prog 400 os) #[Value.string ⟨#[]⟩, Value.string ⟨#[]⟩, Value.string ⟨#[]⟩] rfl (by kernel_rfl) (by kernel_rfl) (by kernel_rfl)
      (OpenSpec.preRow_of_cond 8 hx (by kernel_rfl) (fun k hk => by cases hk) (by kernel_rfl) (door_met os _))) ?_
  intro W base args ds gs before hval hW _ _ _ hL hS _
  exact contract H enc W base args ds gs before hval hW (gr_of_laid hL hS)

theorem said : Rows.ExactFieldSaid :=
  OpenClaim.holds_of_cond 9 Tryz.f9 rfl rfl rfl rfl rfl rfl rfl ⟨rfl, rfl, rfl, rfl, rfl⟩ rfl rfl rfl rfl rfl (by kernel_rfl) Tryz.func9 (by kernel_rfl)
    (of_decide_eq_true (by kernel_rfl)) (by unfold Func.isWrapper; first | (rw [if_pos (by decide +kernel)]; kernel_rfl) | (rw [if_neg (by decide +kernel)]; exact ⟨rfl, rfl⟩))
    (fun os started H enc _ F => by rw [OpenClaim.pre_eq_preRow]; exact lifted os started H enc F)

theorem plain (f : FuncId) (fn : Func) (hf : Tryz.pinned.checked.prog.funcNamed "voussoir/voussoirlaw01.ExactField" = some f) (hfn : Tryz.pinned.checked.prog.funcs[f]? = some fn) :
    true = Tryz.pinned.checked.prog.looks [] ∧ ∀ (j : Nat) t, fn.params[j]? = some t → Tryz.pinned.checked.prog.wantsStandIn t = false := by
  obtain rfl : f = 9 := Option.some.inj ((show Tryz.prog.funcNamed "voussoir/voussoirlaw01.ExactField" = some 9 by kernel_rfl).symm.trans hf) |>.symm
  obtain rfl : fn = Tryz.f9 := (Option.some.inj (Tryz.func9.symm.trans hfn)).symm
  refine ⟨by kernel_rfl, fun j t ht => ?_⟩
  rw [Tryz.params9] at ht
  have hm : t ∈ [9, 9, 9] := by simpa using Array.mem_of_getElem? ht
  have hall : ([9, 9, 9].all fun u => !Tryz.prog.wantsStandIn u) = true := by kernel_rfl
  exact (show Tryz.prog.wantsStandIn t = false by simpa using List.all_eq_true.1 hall t hm)

/-- The statement. -/
theorem card : Rows.ExactFieldCardSaid :=
  Claim7.holds_tied_plain_at .later [] _ _ _ _ said (fun _ h => by cases h) (by kernel_rfl) (fun _ h => by cases h) exactField_row_tie rfl ⟨rfl, rfl⟩ (by kernel_rfl) rfl plain (by kernel_rfl)
#print axioms card

end lawExactField
end Go.Proofs.YtojploidgagmgaaGreatDoor
