/- Package exact, part 4: what its functions answer, as laws on the numbers that their values stand for (Known LawNum LawEqual LawLong Ops OrdMath LawAt Cls ClsI SegC RefA RefB RefV RefSum RefRest RefW RefProd RefX RefDiv RefGcd RefMake RefMul RefAdd RefOps RefQ RefR). -/
import Derived.Test.YtccabfblgjcboaaGreatDoorK3
import Derived.Laws.AppendOwn
import Derived.Laws.OwnMore
import Derived.OwnWalk
set_option linter.unusedVariables false
set_option linter.unusedSimpArgs false

namespace Go.Proofs.YtccabfblgjcboaaGreatDoor
open Go Go.RowKit Go.Proofs Lim
set_option maxHeartbeats 2000000 in
theorem known_any (w : World) (hG : Gr w) : Calls Tryz.prog 10 #[] w (Val w (.bool true)) := by
  have HG := Lib.hid (fun W (hW : Below w.heap.size w W) => hG.below hW hG.size)
  clear hG
  have HOf := Lib.hid (fun W hG => of_q 6 (-4) (by decide) (by decide) (by decide) (by decide) W hG)
  have HRd := Lib.hid (fun W hG => show Calls Tryz.prog 11 #[.string ⟨#[54, 47, 52]⟩] W (ReadPost W [54, 47, 52]) from read_any [54, 47, 52] W (by decide) hG)
  go_enter Tryz.func10, Tryz.ntmps10
  go_wp2_with fail
  refine (HOf.out _ (HG.out _ (Below.refl _ _))).mono ?_
  rintro e W1 (⟨h0, _⟩ | ⟨_, vx, rfl, hx, hb⟩)
  · exact absurd h0 (by decide)
  have HA1 := Lib.hid hb
  have HX := Lib.hid hx
  obtain ⟨sx, ax, bx, px, rfl⟩ := hx.form
  clear hb hx HOf
  go_wp2_with fail
  obtain ⟨W2, hW, hb, ⟨f0, f1, f2, f3⟩⟩ := box1 W1 (.bool sx) (u ax) (u bx) (.pointer px); rw [← hW]; clear hW
  have HA2 := Lib.hid (chain1 HA1.out hb)
  have HX := Lib.hid (HX.out.below hb (Nat.le_refl _))
  clear hb HA1
  generalize W1.heap.size = n1 at *
  refine (HRd.out _ (HG.out _ HA2.out)).mono ?_
  rintro e W3 ⟨v0, rfl, h0, hb⟩
  (have hh := boxq (b := n1) hb f0 f1 f2 f3; clear f0 f1 f2 f3; obtain ⟨f0, f1, f2, f3⟩ := hh)
  rw [kread] at h0 ⊢
  obtain ⟨s0, a0, b0, p0, rfl⟩ := h0.form
  have HA3 := Lib.hid (chain1 HA2.out hb)
  have HX := Lib.hid (HX.out.below hb (Nat.le_refl _))
  clear hb HA2 HRd h0
  have l1 : n1 < W3.heap.size := World.block_lt_of_cell? W3 _ f0
  go_wp2_with fail
  have hb := below1 W3 (.cells #[.bool s0, u a0, u b0, .pointer p0] 26)
  obtain ⟨W4, hW⟩ : ∃ W, W3.alloc (.cells #[.bool s0, u a0, u b0, .pointer p0] 26) = W := ⟨_, rfl⟩
  rw [hW] at hb ⊢
  clear hW l1
  have HX := Lib.hid (HX.out.below hb (Nat.le_refl _))
  (have hh := boxq (b := n1) hb f0 f1 f2 f3; clear f0 f1 f2 f3; obtain ⟨f0, f1, f2, f3⟩ := hh)
  have HA4 := Lib.hid (chain1 HA3.out hb)
  clear hb HA3
  have kz : Siz (qi 6 / qi (-4)) 2 := (siz_qi 6 (by decide) (by decide)).div (siz_qi (-4) (by decide) (by decide)) (by decide)
  have HTx := Lib.hid (fun v W (hv : IsQ W v (qi 6 / qi (-4))) => (kx ▸ text_q v _ 2 W hv kz (by decide) : Calls Tryz.prog 14 #[v] W (StrNew W [45, 51, 47, 50])))
  have HFl := Lib.hid (fun v W (hv : IsQ W v (qi 6 / qi (-4))) hG => floor_q v _ 2 W hv kz (by decide) (by decide) hG)
  have HCe := Lib.hid (fun v W (hv : IsQ W v (qi 6 / qi (-4))) hG => ceil_q v _ 2 W hv kz (by decide) (by decide) hG)
  have HTf := Lib.hid (fun v W (hv : IsQ W v (((qi 6 / qi (-4)).floor : Int) : Rat)) => (kxf ▸ text_q v _ 1 W hv (siz_int _ (by rw [show (qi 6 / qi (-4)).floor = -2 by kernel_rfl]; decide) (by rw [show (qi 6 / qi (-4)).floor = -2 by kernel_rfl]; decide)) (by decide) : Calls Tryz.prog 14 #[v] W (StrNew W [45, 50])))
  have HTc := Lib.hid (fun v W (hv : IsQ W v (((qi 6 / qi (-4)).ceil : Int) : Rat)) => (kxc ▸ text_q v _ 1 W hv (siz_int _ (by rw [show (qi 6 / qi (-4)).ceil = -1 by kernel_rfl]; decide) (by rw [show (qi 6 / qi (-4)).ceil = -1 by kernel_rfl]; decide)) (by decide) : Calls Tryz.prog 14 #[v] W (StrNew W [45, 49])))
  clear kz
  refine (HTx.out _ _ HX.out).mono ?_
  rintro e W5 ⟨rfl, hb⟩
  have HX := Lib.hid (HX.out.below hb (Nat.le_refl _))
  (have hh := boxq (b := n1) hb f0 f1 f2 f3; clear f0 f1 f2 f3; obtain ⟨f0, f1, f2, f3⟩ := hh)
  have HA5 := Lib.hid (chain1 HA4.out hb)
  clear hb HA4
  go_wp2_with fail
  refine (HFl.out _ _ HX.out (HG.out _ HA5.out)).mono ?_
  rintro e W6 ⟨vf, rfl, hvf, hb⟩
  have HX := Lib.hid (HX.out.below hb (Nat.le_refl _))
  (have hh := boxq (b := n1) hb f0 f1 f2 f3; clear f0 f1 f2 f3; obtain ⟨f0, f1, f2, f3⟩ := hh)
  have HA6 := Lib.hid (chain1 HA5.out hb)
  have HVF := Lib.hid hvf
  obtain ⟨_, _, _, _, rfl⟩ := hvf.form
  clear hvf
  clear hb HA5
  go_wp2_with fail
  refine (HTf.out _ _ HVF.out).mono ?_
  rintro e W7 ⟨rfl, hb⟩
  have HX := Lib.hid (HX.out.below hb (Nat.le_refl _))
  (have hh := boxq (b := n1) hb f0 f1 f2 f3; clear f0 f1 f2 f3; obtain ⟨f0, f1, f2, f3⟩ := hh)
  have HA7 := Lib.hid (chain1 HA6.out hb)
  clear hb HA6
  go_wp2_with fail
  refine (HCe.out _ _ HX.out (HG.out _ HA7.out)).mono ?_
  rintro e W8 ⟨vc, rfl, hvc, hb⟩
  have HX := Lib.hid (HX.out.below hb (Nat.le_refl _))
  (have hh := boxq (b := n1) hb f0 f1 f2 f3; clear f0 f1 f2 f3; obtain ⟨f0, f1, f2, f3⟩ := hh)
  have HA8 := Lib.hid (chain1 HA7.out hb)
  have HVC := Lib.hid hvc
  obtain ⟨_, _, _, _, rfl⟩ := hvc.form
  clear hvc
  clear hb HA7
  go_wp2_with fail
  refine (HTc.out _ _ HVC.out).mono ?_
  rintro e W9 ⟨rfl, hb⟩
  have HA9 := Lib.hid (chain1 HA8.out hb)
  clear hb HA8
  clear f0 f1 f2 f3 HX HVF HVC HTx HFl HCe HTf HTc
  go_wp2_with fail
  have HI := Lib.hid (fun W => int_q (2) (by decide) (by decide) W)
  refine (HI.out _).mono ?_
  rintro e W10 ⟨va, rfl, hva, hb⟩
  have HA10 := Lib.hid (chain1 HA9.out hb)
  have HVA := Lib.hid hva
  obtain ⟨_, _, _, _, rfl⟩ := hva.form
  clear hva
  clear hb HA9
  clear HI
  go_wp2_with fail
  have HI := Lib.hid (fun W => int_q (-1) (by decide) (by decide) W)
  refine (HI.out _).mono ?_
  rintro e W11 ⟨vb, rfl, hvb, hb⟩
  have HVA := Lib.hid (HVA.out.below hb (Nat.le_refl _))
  have HA11 := Lib.hid (chain1 HA10.out hb)
  have HVB := Lib.hid hvb
  obtain ⟨_, _, _, _, rfl⟩ := hvb.form
  clear hvb
  clear hb HA10
  clear HI
  go_wp2_with fail
  have HBt := Lib.hid (fun v1 v2 W h1 h2 => between_any v1 v2 (qi (2)) (qi (-1)) 1 W h1 h2 (siz_qi _ (by decide) (by decide)) (siz_qi _ (by decide) (by decide)) (by decide))
  rw [ks.1, ks.2] at HBt
  refine (HBt.out _ _ _ HVA.out HVB.out).mono ?_
  rintro e W12 ⟨vs, rfl, hvs, hb⟩
  have HA12 := Lib.hid (chain1 HA11.out hb)
  have HVS := Lib.hid hvs
  clear hb HA11
  clear HBt HVA HVB
  obtain ⟨s1, sa, sb, sp, s2, sc, sd, sq, rfl, hl, hh⟩ := hvs
  go_wp2_with fail
  obtain ⟨W13, hW, hb, hX⟩ := newbox8 W12 (.bool s1) (u sa) (u sb) (.pointer sp) (.bool s2) (u sc) (u sd) (.pointer sq)
  rw [hW]
  clear hW
  have HS8 := Lib.hid hX
  have HLs := Lib.hid (hl.below hb (Nat.le_refl _))
  have HHs := Lib.hid (hh.below hb (Nat.le_refl _))
  have HA13 := Lib.hid (chain1 HA12.out hb)
  clear hX hl hh HVS
  clear hb HA12
  generalize W12.heap.size = n5 at *
  have HI3 := Lib.hid (fun W => (int_q 3 (by decide) (by decide) W : Calls Tryz.prog 15 #[.int .i64 3] W (QNew W (qi 3))))
  have HI4 := Lib.hid (fun W => (int_q 4 (by decide) (by decide) W : Calls Tryz.prog 15 #[.int .i64 4] W (QNew W (qi 4))))
  have HBt := Lib.hid (fun v1 v2 W h1 h2 => between_any v1 v2 (qi 3) (qi 4) 1 W h1 h2 (siz_qi _ (by decide) (by decide)) (siz_qi _ (by decide) (by decide)) (by decide))
  rw [kr.1, kr.2] at HBt
  have HTm := Lib.hid (fun v1 v2 W h1 h2 hG => sptimes_any v1 v2 (qi (-1)) (qi 2) (qi 3) (qi 4) 1 W h1 h2 (siz_qi _ (by decide) (by decide)) (siz_qi _ (by decide) (by decide)) (siz_qi _ (by decide) (by decide)) (siz_qi _ (by decide) (by decide)) (by decide) hG)
  rw [kt.1, kt.2] at HTm
  have HsS := Lib.hid (show IsS W13 (.agg #[.bool s1, u sa, u sb, .pointer sp, .bool s2, u sc, u sd, .pointer sq]) (qi (-1)) (qi 2) from ⟨_, _, _, _, _, _, _, _, rfl, HLs.out, HHs.out⟩)
  go_upto_region 6 with fail
  go_cut [6] from 42 to 46 (fun s6 wx => KBox W13 (qi (-4)) (qi 8) s6 wx)
  case first =>
    have hb0 := Below.refl W13.heap.size W13
    obtain ⟨c0, c1, c2, c3, c4, c5, c6, c7⟩ := HS8.out.cells
    have lt13 : n5 < W13.heap.size := Box8.lt HS8.out
    have na13 := Nat.ne_of_lt lt13
    have nb13 := na13.symm
    go_region_held3 (fun w' => w'.cell? ⟨n5, 0, none⟩ = some (.bool s1) ∧ w'.cell? ⟨n5, 1, none⟩ = some (u sa) ∧ w'.cell? ⟨n5, 2, none⟩ = some (u sb) ∧ w'.cell? ⟨n5, 3, none⟩ = some (.pointer sp) ∧ w'.cell? ⟨n5, 4, none⟩ = some (.bool s2) ∧ w'.cell? ⟨n5, 5, none⟩ = some (u sc) ∧ w'.cell? ⟨n5, 6, none⟩ = some (u sd) ∧ w'.cell? ⟨n5, 7, none⟩ = some (.pointer sq)) (go_keep) (first | ((with_reducible refine (HI3.out _).mono ?_); rintro e W14 ⟨va, rfl, hva, hb⟩; obtain ⟨_, _, _, _, rfl⟩ := hva.form; ((first | have hz := ZAt.keep hz hb | have hz := ZAt.new hb0 hb | have hz := ZAt.drew hb0 hb | skip); have hb0 : Below W13.heap.size W13 W14 := (by first | exact chain1 hb0 hb | exact chain1 (chain1 hb0 (below1 _ _)) hb | exact chain hb0 hb | exact chain (chain1 hb0 (below1 _ _)) hb); clear c0 c1 c2 c3 c4 c5 c6 c7; have hX := Box8.below HS8.out hb0 (Nat.le_refl _); (obtain ⟨c0, c1, c2, c3, c4, c5, c6, c7⟩ := hX.cells); have lt14 : n5 < W14.heap.size := Box8.lt hX; have na14 := Nat.ne_of_lt lt14; have nb14 := na14.symm; clear hX); clear hb) | ((with_reducible refine (HI4.out _).mono ?_); rintro e W15 ⟨vb, rfl, hvb, hb⟩; obtain ⟨_, _, _, _, rfl⟩ := hvb.form; (first | replace hva := hva.below hb (Nat.le_refl _) | replace hva := (hva.below (below1 _ _) (Nat.le_refl _)).below hb (Nat.le_refl _)); ((first | have hz := ZAt.keep hz hb | have hz := ZAt.new hb0 hb | have hz := ZAt.drew hb0 hb | skip); have hb0 : Below W13.heap.size W13 W15 := (by first | exact chain1 hb0 hb | exact chain1 (chain1 hb0 (below1 _ _)) hb | exact chain hb0 hb | exact chain (chain1 hb0 (below1 _ _)) hb); clear c0 c1 c2 c3 c4 c5 c6 c7; have hX := Box8.below HS8.out hb0 (Nat.le_refl _); (obtain ⟨c0, c1, c2, c3, c4, c5, c6, c7⟩ := hX.cells); have lt15 : n5 < W15.heap.size := Box8.lt hX; have na15 := Nat.ne_of_lt lt15; have nb15 := na15.symm; clear hX); clear hb) | ((with_reducible refine (HBt.out _ _ _ ?_ ?_).mono ?_); (first | exact hva | exact hva.below (below1 _ _) (Nat.le_refl _)); (first | exact hvb | exact hvb.below (below1 _ _) (Nat.le_refl _)); rintro e W16 ⟨vt, rfl, hvt, hb⟩; have hvt' := hvt; obtain ⟨_, _, _, _, _, _, _, _, rfl, -, -⟩ := hvt'; ((first | have hz := ZAt.keep hz hb | have hz := ZAt.new hb0 hb | have hz := ZAt.drew hb0 hb | skip); have hb0 : Below W13.heap.size W13 W16 := (by first | exact chain1 hb0 hb | exact chain1 (chain1 hb0 (below1 _ _)) hb | exact chain hb0 hb | exact chain (chain1 hb0 (below1 _ _)) hb); clear c0 c1 c2 c3 c4 c5 c6 c7; have hX := Box8.below HS8.out hb0 (Nat.le_refl _); (obtain ⟨c0, c1, c2, c3, c4, c5, c6, c7⟩ := hX.cells); have lt16 : n5 < W16.heap.size := Box8.lt hX; have na16 := Nat.ne_of_lt lt16; have nb16 := na16.symm; clear hX); clear hb) | ((with_reducible refine (HTm.out _ _ _ ?_ ?_ ?_).mono ?_); (first | exact HsS.out.below hb0 (Nat.le_refl _) | exact HsS.out.below (chain1 hb0 (below1 _ _)) (Nat.le_refl _)); (first | exact hvt | exact hvt.below (below1 _ _) (Nat.le_refl _)); (first | exact HG.out _ (chain1 HA13.out hb0) | exact HG.out _ (chain1 HA13.out (chain1 hb0 (below1 _ _)))); rintro e W17 ⟨v, rfl, hv, hb⟩; have hv' := hv; obtain ⟨t1, ta, tb, tp, t2, tc, td, tq, rfl, -, -⟩ := hv'; ((first | have hz := ZAt.keep hz hb | have hz := ZAt.new hb0 hb | have hz := ZAt.drew hb0 hb | skip); have hb0 : Below W13.heap.size W13 W17 := (by first | exact chain1 hb0 hb | exact chain1 (chain1 hb0 (below1 _ _)) hb | exact chain hb0 hb | exact chain (chain1 hb0 (below1 _ _)) hb); clear c0 c1 c2 c3 c4 c5 c6 c7; have hX := Box8.below HS8.out hb0 (Nat.le_refl _); (obtain ⟨c0, c1, c2, c3, c4, c5, c6, c7⟩ := hX.cells); have lt17 : n5 < W17.heap.size := Box8.lt hX; have na17 := Nat.ne_of_lt lt17; have nb17 := na17.symm; clear hX); clear hb; (first | (have hz9 := hz.2; (obtain ⟨z0, z1, z2, z3, z4, z5, z6, z7⟩ := Box8.cells hz9; have zf0 := Box8.frozen hz9 0; have zf1 := Box8.frozen hz9 1; have zf2 := Box8.frozen hz9 2; have zf3 := Box8.frozen hz9 3; have zf4 := Box8.frozen hz9 4; have zf5 := Box8.frozen hz9 5; have zf6 := Box8.frozen hz9 6; have zf7 := Box8.frozen hz9 7); have HZz := Lib.hid hz; clear hz hz9) | skip); have HVv := Lib.hid hv; have HBb := Lib.hid hb0; clear hv hb0 hva hvb hvt))
    all_goals (clear c0 c1 c2 c3 c4 c5 c6 c7; rename_i hS; clear hS; go_wp2_with fail; go_meet; first | (have hz := HZz.out; exact KBox.stored hz HVv.out HBb.out) | exact KBox.fresh HVv.out HBb.out)
  case rest =>
    obtain ⟨n6, t1, ta, tb, tp, t2, tc, td, tq, rfl, hX, hl, hh, hb⟩ := hcut
    obtain ⟨W17, hW17⟩ : ∃ W, W = wc := ⟨_, rfl⟩
    subst hW17
    have HT8 := Lib.hid hX
    have HLt := Lib.hid hl
    have HHt := Lib.hid hh
    have HS8 := Lib.hid (Box8.below HS8.out hb (Nat.le_refl _))
    have HLs := Lib.hid (HLs.out.below hb (Nat.le_refl _))
    have HHs := Lib.hid (HHs.out.below hb (Nat.le_refl _))
    have HA17 := Lib.hid (chain1 HA13.out hb)
    clear hX hl hh HI3 HI4 HBt HTm HsS
    clear hb HA13
    go_wp2_with fail
    have HI := Lib.hid (fun W => int_q (1) (by decide) (by decide) W)
    refine (HI.out _).mono ?_
    rintro e W18 ⟨va, rfl, hva, hb⟩
    have HLs := Lib.hid (HLs.out.below hb (Nat.le_refl _))
    have HHs := Lib.hid (HHs.out.below hb (Nat.le_refl _))
    have HLt := Lib.hid (HLt.out.below hb (Nat.le_refl _))
    have HHt := Lib.hid (HHt.out.below hb (Nat.le_refl _))
    have HS8 := Lib.hid (Box8.below HS8.out hb (Nat.le_refl _))
    have HT8 := Lib.hid (Box8.below HT8.out hb (Nat.le_refl _))
    have HA18 := Lib.hid (chain1 HA17.out hb)
    have HVA := Lib.hid hva
    obtain ⟨_, _, _, _, rfl⟩ := hva.form
    clear hva
    clear hb HA17
    clear HI
    go_wp2_with fail
    have HI := Lib.hid (fun W => int_q (-2) (by decide) (by decide) W)
    refine (HI.out _).mono ?_
    rintro e W19 ⟨vb, rfl, hvb, hb⟩
    have HLs := Lib.hid (HLs.out.below hb (Nat.le_refl _))
    have HHs := Lib.hid (HHs.out.below hb (Nat.le_refl _))
    have HLt := Lib.hid (HLt.out.below hb (Nat.le_refl _))
    have HHt := Lib.hid (HHt.out.below hb (Nat.le_refl _))
    have HVA := Lib.hid (HVA.out.below hb (Nat.le_refl _))
    have HS8 := Lib.hid (Box8.below HS8.out hb (Nat.le_refl _))
    have HT8 := Lib.hid (Box8.below HT8.out hb (Nat.le_refl _))
    have HA19 := Lib.hid (chain1 HA18.out hb)
    have HVB := Lib.hid hvb
    obtain ⟨_, _, _, _, rfl⟩ := hvb.form
    clear hvb
    clear hb HA18
    clear HI
    go_wp2_with fail
    have HI := Lib.hid (fun W => int_q (0) (by decide) (by decide) W)
    refine (HI.out _).mono ?_
    rintro e W20 ⟨vc, rfl, hvc, hb⟩
    have HLs := Lib.hid (HLs.out.below hb (Nat.le_refl _))
    have HHs := Lib.hid (HHs.out.below hb (Nat.le_refl _))
    have HLt := Lib.hid (HLt.out.below hb (Nat.le_refl _))
    have HHt := Lib.hid (HHt.out.below hb (Nat.le_refl _))
    have HVA := Lib.hid (HVA.out.below hb (Nat.le_refl _))
    have HVB := Lib.hid (HVB.out.below hb (Nat.le_refl _))
    have HS8 := Lib.hid (Box8.below HS8.out hb (Nat.le_refl _))
    have HT8 := Lib.hid (Box8.below HT8.out hb (Nat.le_refl _))
    have HA20 := Lib.hid (chain1 HA19.out hb)
    have HVC := Lib.hid hvc
    obtain ⟨_, _, _, _, rfl⟩ := hvc.form
    clear hvc
    clear hb HA19
    clear HI
    go_wp2_with fail
    have HI := Lib.hid (fun W => int_q (0) (by decide) (by decide) W)
    refine (HI.out _).mono ?_
    rintro e W21 ⟨vd, rfl, hvd, hb⟩
    have HLs := Lib.hid (HLs.out.below hb (Nat.le_refl _))
    have HHs := Lib.hid (HHs.out.below hb (Nat.le_refl _))
    have HLt := Lib.hid (HLt.out.below hb (Nat.le_refl _))
    have HHt := Lib.hid (HHt.out.below hb (Nat.le_refl _))
    have HVA := Lib.hid (HVA.out.below hb (Nat.le_refl _))
    have HVB := Lib.hid (HVB.out.below hb (Nat.le_refl _))
    have HVC := Lib.hid (HVC.out.below hb (Nat.le_refl _))
    have HS8 := Lib.hid (Box8.below HS8.out hb (Nat.le_refl _))
    have HT8 := Lib.hid (Box8.below HT8.out hb (Nat.le_refl _))
    have HA21 := Lib.hid (chain1 HA20.out hb)
    have HVD := Lib.hid hvd
    obtain ⟨_, _, _, _, rfl⟩ := hvd.form
    clear hvd
    clear hb HA20
    clear HI
    go_wp2_with fail
    have HI := Lib.hid (fun W => int_q (3) (by decide) (by decide) W)
    refine (HI.out _).mono ?_
    rintro e W22 ⟨ve, rfl, hve, hb⟩
    have HLs := Lib.hid (HLs.out.below hb (Nat.le_refl _))
    have HHs := Lib.hid (HHs.out.below hb (Nat.le_refl _))
    have HLt := Lib.hid (HLt.out.below hb (Nat.le_refl _))
    have HHt := Lib.hid (HHt.out.below hb (Nat.le_refl _))
    have HVA := Lib.hid (HVA.out.below hb (Nat.le_refl _))
    have HVB := Lib.hid (HVB.out.below hb (Nat.le_refl _))
    have HVC := Lib.hid (HVC.out.below hb (Nat.le_refl _))
    have HVD := Lib.hid (HVD.out.below hb (Nat.le_refl _))
    have HS8 := Lib.hid (Box8.below HS8.out hb (Nat.le_refl _))
    have HT8 := Lib.hid (Box8.below HT8.out hb (Nat.le_refl _))
    have HA22 := Lib.hid (chain1 HA21.out hb)
    have HVE := Lib.hid hve
    obtain ⟨_, _, _, _, rfl⟩ := hve.form
    clear hve
    clear hb HA21
    clear HI
    go_wp2_with fail
    have HBt := Lib.hid (fun v1 v2 W h1 h2 => between_any v1 v2 (qi (0)) (qi (3)) 1 W h1 h2 (siz_qi _ (by decide) (by decide)) (siz_qi _ (by decide) (by decide)) (by decide))
    rw [kv.1, kv.2] at HBt
    refine (HBt.out _ _ _ HVD.out HVE.out).mono ?_
    rintro e W23 ⟨vr, rfl, hvr, hb⟩
    have HLs := Lib.hid (HLs.out.below hb (Nat.le_refl _))
    have HHs := Lib.hid (HHs.out.below hb (Nat.le_refl _))
    have HLt := Lib.hid (HLt.out.below hb (Nat.le_refl _))
    have HHt := Lib.hid (HHt.out.below hb (Nat.le_refl _))
    have HVA := Lib.hid (HVA.out.below hb (Nat.le_refl _))
    have HVB := Lib.hid (HVB.out.below hb (Nat.le_refl _))
    have HVC := Lib.hid (HVC.out.below hb (Nat.le_refl _))
    have HS8 := Lib.hid (Box8.below HS8.out hb (Nat.le_refl _))
    have HT8 := Lib.hid (Box8.below HT8.out hb (Nat.le_refl _))
    have HA23 := Lib.hid (chain1 HA22.out hb)
    have HVR := Lib.hid hvr
    clear hb HA22
    clear HBt HVD HVE
    have HQu := Lib.hid (fun v1 v2 v3 v4 W h1 h2 h3 h4 hG => quadratic_any v1 v2 v3 v4 (qi 1) (qi (-2)) (qi 0) (qi 0) (qi 3) 1 W h1 h2 h3 h4 (siz_qi _ (by decide) (by decide)) (siz_qi _ (by decide) (by decide)) (siz_qi _ (by decide) (by decide)) (siz_qi _ (by decide) (by decide)) (siz_qi _ (by decide) (by decide)) (by decide) hG)
    rw [ku.1, ku.2] at HQu
    obtain ⟨r1, ra, rb, rp, r2, rc, rd, rq, rfl, hl, hh⟩ := hvr
    have hvr := HVR.out
    go_wp2_with fail
    refine (HQu.out _ _ _ _ _ HVA.out HVB.out HVC.out HVR.out (HG.out _ HA23.out)).mono ?_
    rintro e W24 ⟨vq, rfl, hvq, hb⟩
    have HLs := Lib.hid (HLs.out.below hb (Nat.le_refl _))
    have HHs := Lib.hid (HHs.out.below hb (Nat.le_refl _))
    have HLt := Lib.hid (HLt.out.below hb (Nat.le_refl _))
    have HHt := Lib.hid (HHt.out.below hb (Nat.le_refl _))
    have HS8 := Lib.hid (Box8.below HS8.out hb (Nat.le_refl _))
    have HT8 := Lib.hid (Box8.below HT8.out hb (Nat.le_refl _))
    have HA24 := Lib.hid (chain1 HA23.out hb)
    have HVQ := Lib.hid hvq
    clear hb HA23
    clear HQu HVA HVB HVC HVR hl hh hvr
    obtain ⟨q1, qa, qb, qp, q2, qc, qd, qq, rfl, hl, hh⟩ := hvq
    have ltHS8 := Box8.lt HS8.out
    have ltHT8 := Box8.lt HT8.out
    go_upto_region 8 with fail
    obtain ⟨W25, hW, hb, hX⟩ := newbox8 W24 (.bool q1) (u qa) (u qb) (.pointer qp) (.bool q2) (u qc) (u qd) (.pointer qq)
    rw [hW]
    clear hW
    clear ltHS8
    clear ltHT8
    have HQ8 := Lib.hid hX
    have HLq := Lib.hid (hl.below hb (Nat.le_refl _))
    have HHq := Lib.hid (hh.below hb (Nat.le_refl _))
    have HLs := Lib.hid (HLs.out.below hb (Nat.le_refl _))
    have HHs := Lib.hid (HHs.out.below hb (Nat.le_refl _))
    have HLt := Lib.hid (HLt.out.below hb (Nat.le_refl _))
    have HHt := Lib.hid (HHt.out.below hb (Nat.le_refl _))
    have HS8 := Lib.hid (Box8.below HS8.out hb (Nat.le_refl _))
    have HT8 := Lib.hid (Box8.below HT8.out hb (Nat.le_refl _))
    have HA25 := Lib.hid (chain1 HA24.out hb)
    clear hX hl hh HVQ
    clear hb HA24
    generalize W24.heap.size = n7 at *
    (obtain ⟨c0, c1, c2, c3, c4, c5, c6, c7⟩ := HT8.out.cells)
    go_wp2_with fail
    clear c0 c1 c2 c3 c4 c5 c6 c7
    have HTx := Lib.hid (fun v W (hv : IsQ W v (qi (-4))) => (kt4 ▸ text_q v _ 1 W hv (siz_qi _ (by decide) (by decide)) (by decide) : Calls Tryz.prog 14 #[v] W (StrNew W _)))
    refine (HTx.out _ _ HLt.out).mono ?_
    rintro e W26 ⟨rfl, hb⟩
    have HLs := Lib.hid (HLs.out.below hb (Nat.le_refl _))
    have HHs := Lib.hid (HHs.out.below hb (Nat.le_refl _))
    have HLt := Lib.hid (HLt.out.below hb (Nat.le_refl _))
    have HHt := Lib.hid (HHt.out.below hb (Nat.le_refl _))
    have HLq := Lib.hid (HLq.out.below hb (Nat.le_refl _))
    have HHq := Lib.hid (HHq.out.below hb (Nat.le_refl _))
    have HS8 := Lib.hid (Box8.below HS8.out hb (Nat.le_refl _))
    have HT8 := Lib.hid (Box8.below HT8.out hb (Nat.le_refl _))
    have HQ8 := Lib.hid (Box8.below HQ8.out hb (Nat.le_refl _))
    have HA26 := Lib.hid (chain1 HA25.out hb)
    clear hb HA25
    clear HTx
    (obtain ⟨c0, c1, c2, c3, c4, c5, c6, c7⟩ := HT8.out.cells)
    go_wp2_with fail
    clear c0 c1 c2 c3 c4 c5 c6 c7
    have HTx := Lib.hid (fun v W (hv : IsQ W v (qi (8))) => (kt8 ▸ text_q v _ 1 W hv (siz_qi _ (by decide) (by decide)) (by decide) : Calls Tryz.prog 14 #[v] W (StrNew W _)))
    refine (HTx.out _ _ HHt.out).mono ?_
    rintro e W27 ⟨rfl, hb⟩
    have HLs := Lib.hid (HLs.out.below hb (Nat.le_refl _))
    have HHs := Lib.hid (HHs.out.below hb (Nat.le_refl _))
    have HLt := Lib.hid (HLt.out.below hb (Nat.le_refl _))
    have HHt := Lib.hid (HHt.out.below hb (Nat.le_refl _))
    have HLq := Lib.hid (HLq.out.below hb (Nat.le_refl _))
    have HHq := Lib.hid (HHq.out.below hb (Nat.le_refl _))
    have HS8 := Lib.hid (Box8.below HS8.out hb (Nat.le_refl _))
    have HT8 := Lib.hid (Box8.below HT8.out hb (Nat.le_refl _))
    have HQ8 := Lib.hid (Box8.below HQ8.out hb (Nat.le_refl _))
    have HA27 := Lib.hid (chain1 HA26.out hb)
    clear hb HA26
    clear HTx
    (obtain ⟨c0, c1, c2, c3, c4, c5, c6, c7⟩ := HS8.out.cells)
    go_wp2_with fail
    clear c0 c1 c2 c3 c4 c5 c6 c7
    have HSq := Lib.hid (fun v W h hG => square_any v (qi (-1)) (qi 2) 1 W h (siz_qi _ (by decide) (by decide)) (siz_qi _ (by decide) (by decide)) (by decide) hG)
    rw [kq] at HSq
    have HsS := Lib.hid (show IsS W27 (.agg #[.bool s1, u sa, u sb, .pointer sp, .bool s2, u sc, u sd, .pointer sq]) (qi (-1)) (qi 2) from ⟨_, _, _, _, _, _, _, _, rfl, HLs.out, HHs.out⟩)
    refine (HSq.out _ _ HsS.out (HG.out _ HA27.out)).mono ?_
    rintro e W28 ⟨vy, rfl, hvy, hb⟩
    have HLq := Lib.hid (HLq.out.below hb (Nat.le_refl _))
    have HHq := Lib.hid (HHq.out.below hb (Nat.le_refl _))
    have HQ8 := Lib.hid (Box8.below HQ8.out hb (Nat.le_refl _))
    have HA28 := Lib.hid (chain1 HA27.out hb)
    have HVY := Lib.hid hvy
    clear hb HA27
    obtain ⟨y1, ya, yb, yp, y2, yc, yd, yq, rfl, hl, hh⟩ := hvy
    have HLy := Lib.hid hl
    clear hl hh HVY HSq HsS
    have hfd := field_low y1 y2 ya yb yc yd yp yq W28
    go_wp2_with fail
    clear hfd
    have HTx := Lib.hid (fun v W (hv : IsQ W v (qi (0))) => (kt0 ▸ text_q v _ 1 W hv (siz_qi _ (by decide) (by decide)) (by decide) : Calls Tryz.prog 14 #[v] W (StrNew W _)))
    refine (HTx.out _ _ HLy.out).mono ?_
    rintro e W29 ⟨rfl, hb⟩
    have HLq := Lib.hid (HLq.out.below hb (Nat.le_refl _))
    have HHq := Lib.hid (HHq.out.below hb (Nat.le_refl _))
    have HQ8 := Lib.hid (Box8.below HQ8.out hb (Nat.le_refl _))
    have HA29 := Lib.hid (chain1 HA28.out hb)
    clear hb HA28
    clear HTx
    (obtain ⟨c0, c1, c2, c3, c4, c5, c6, c7⟩ := HQ8.out.cells)
    go_wp2_with fail
    clear c0 c1 c2 c3 c4 c5 c6 c7
    have HTx := Lib.hid (fun v W (hv : IsQ W v (qi (-1))) => (kt1 ▸ text_q v _ 1 W hv (siz_qi _ (by decide) (by decide)) (by decide) : Calls Tryz.prog 14 #[v] W (StrNew W _)))
    refine (HTx.out _ _ HLq.out).mono ?_
    rintro e W30 ⟨rfl, hb⟩
    have HLq := Lib.hid (HLq.out.below hb (Nat.le_refl _))
    have HHq := Lib.hid (HHq.out.below hb (Nat.le_refl _))
    have HQ8 := Lib.hid (Box8.below HQ8.out hb (Nat.le_refl _))
    have HA30 := Lib.hid (chain1 HA29.out hb)
    clear hb HA29
    clear HTx
    (obtain ⟨c0, c1, c2, c3, c4, c5, c6, c7⟩ := HQ8.out.cells)
    go_wp2_with fail
    clear c0 c1 c2 c3 c4 c5 c6 c7
    have HTx := Lib.hid (fun v W (hv : IsQ W v (qi (3))) => (kt3 ▸ text_q v _ 1 W hv (siz_qi _ (by decide) (by decide)) (by decide) : Calls Tryz.prog 14 #[v] W (StrNew W _)))
    refine (HTx.out _ _ HHq.out).mono ?_
    rintro e W31 ⟨rfl, hb⟩
    have HLq := Lib.hid (HLq.out.below hb (Nat.le_refl _))
    have HHq := Lib.hid (HHq.out.below hb (Nat.le_refl _))
    have HQ8 := Lib.hid (Box8.below HQ8.out hb (Nat.le_refl _))
    have HA31 := Lib.hid (chain1 HA30.out hb)
    clear hb HA30
    clear HTx
    go_wp2_with fail
    exact bodyPost_ret (v := .bool true) (by simp [results, Tryz.results10, go_sem]) rfl ⟨rfl, HA31.out⟩
open Go Go.RowKit Go.Proofs Lim
open Go Go.RowKit Go.Proofs Lim
open Go Go.RowKit Go.Proofs Lim
theorem any_take_succ {ls : List (List UInt8)} {k : Nat} (p : List UInt8 → Bool) (h : (ls.take k).any p = false) (hk : p (ls[k]?.getD []) = false) : (ls.take (k + 1)).any p = false := by
  rw [List.take_add_one, List.any_append, h, Bool.false_or]
  cases hx : ls[k]? with
  | none => rfl
  | some x => rw [hx] at hk; simpa using hk
theorem any_at {ls : List (List UInt8)} {k : Nat} (p : List UInt8 → Bool) (hk : k < ls.length) (h : p (ls[k]?.getD []) = true) : ls.any p = true := by
  rw [List.getElem?_eq_getElem hk] at h
  exact List.any_eq_true.2 ⟨ls[k], List.getElem_mem hk, h⟩
theorem long_any (b : Nat) (ls : List (List UInt8)) (w : World) (hc : ∀ i, i < ls.length → w.cell? ⟨b, i, none⟩ = some (str (ls[i]?.getD []))) (hn : (ls.length : Int) ≤ 1000) :
    Calls Tryz.prog 23 #[.slice (some ⟨b, 0, none⟩) ls.length ls.length] w (fun e w' => e = .returned (.bool (ls.any (fun x => decide (120 < x.length)))) ∧ w' = w) := by
  have HC := Lib.hid hc
  clear hc
  generalize hR : ls.any (fun x => decide (120 < x.length)) = R
  have HR := Lib.hid hR
  clear hR
  go_enter Tryz.func23, Tryz.ntmps23
  go_wp2_with fail
  go_loop [3] (fun i => ∃ k, k ≤ ls.length ∧ i = .int .i64 (k : Int) ∧ Hid ((ls.take k).any (fun x => decide (120 < x.length)) = false)) (fun i => ls.length - (intOf i).toNat)
  case atStart => exact ⟨0, Nat.zero_le _, rfl, Lib.hid rfl⟩
  case round =>
    obtain ⟨k, hk, rfl, hany⟩ := hrel
    by_cases hkn : k < ls.length
    · have hcell := HC.out k hkn
      have hk0 : (0 : Int) ≤ (k : Int) := by omega
      have hk1 : (k : Int) < (ls.length : Int) := by omega
      have hsz : (⟨(ls[k]?.getD []).toArray⟩ : ByteArray).size = (ls[k]?.getD []).length := by simp [ByteArray.size]
      have hst := any_take_succ (ls := ls) (k := k) (fun x => decide (120 < x.length)) hany.out
      have HSt := Lib.hid hst
      have hat := any_at (ls := ls) (k := k) (fun x => decide (120 < x.length)) hkn
      have HAt := Lib.hid hat
      clear hst hat
      generalize ls[k]?.getD [] = x at *
      by_cases hx : 120 < x.length
      · have hxi : (120 : Int) < (x.length : Int) := by omega
        have hr : R = true := by rw [← HR.out]; exact HAt.out (by simpa using hx)
        clear HAt HSt HR
        subst hr
        go_wp2_with fail
        go_ret
        exact ⟨rfl, rfl⟩
      · have hxi : ¬ (120 : Int) < (x.length : Int) := by omega
        have hw : IntKind.i64.wrap ((k : Int) + 1) = (k : Int) + 1 := by rw [IntKind.wrap_i64]; omega
        have HN := Lib.hid (HSt.out (by simpa using hx))
        clear HSt HAt
        go_wp2_with fail
        go_round
        case rel => exact ⟨k + 1, by omega, by simp, HN⟩
        case measure => simp [intOf]; omega
    · obtain rfl : k = ls.length := by omega
      have hr : R = false := by
        have := hany.out
        rw [List.take_length] at this
        rw [← HR.out, this]
      clear hany HR
      subst hr
      go_wp2_with fail
      go_ret
      exact ⟨rfl, rfl⟩
open Go Go.RowKit Go.Proofs Lim
open Go Go.RowKit Go.Proofs Lim
structure TwoIn (w0 V : World) (r1 r2 : Rat) (s1 s2 : Bool) (a1 b1 a2 b2 : Nat) (p1 p2 : Option Addr) : Prop where
  q1 : IsQ V (.agg #[.bool s1, u a1, u b1, .pointer p1]) r1
  q2 : IsQ V (.agg #[.bool s2, u a2, u b2, .pointer p2]) r2
  hb : Below w0.heap.size w0 V
section
variable {w0 V : World} {r1 r2 : Rat} {s1 s2 z1 z2 : Bool} {a1 b1 a2 b2 : Nat} {p1 p2 : Option Addr} {y1 y2 y3 y4 y5 y6 : Value}
end
open Go Go.RowKit Go.Proofs Lim
open Go Go.RowKit Go.Proofs Lim
theorem IsNat.other' {W W' : World} {R : Nat} {cs : Array Value} {t : TypeId} {v : Value} {n : Nat} (hb : W.heap[R]? = some (.cells cs t (0, 0))) (ht : t ≠ 23) (h : IsNat W v n) (ho : Only R W W') : IsNat W' v n := by
  obtain ⟨xs, ⟨⟨ao, c, rfl, h1, h2, hr⟩, ok, typ⟩, htr, hv⟩ := h
  refine ⟨xs, ⟨⟨ao, c, rfl, h1, h2, fun hn => ?_⟩, ok, typ.other hb ht ho⟩, htr, hv⟩
  obtain ⟨b, off, rfl, row⟩ := hr hn
  refine ⟨b, off, rfl, ho.row ?_ row⟩
  intro e
  obtain ⟨cs', fr', hc⟩ := typ ⟨b, off, none⟩ _ _ rfl hn
  rw [show (⟨b, off, none⟩ : Addr).block = R from e, hb] at hc
  injection hc with hc
  injection hc with _ hc
  exact ht hc
theorem IsQ.other' {W W' : World} {R : Nat} {cs : Array Value} {t : TypeId} {v : Value} {r : Rat} (hb : W.heap[R]? = some (.cells cs t (0, 0))) (ht : t ≠ 23) (hz : ∀ x, cs[0]? = some x → Sym.noSl x = true) (h : IsQ W v r) (ho : Only R W W') : IsQ W' v r := by
  have h : Num W v _ _ _ := h
  show Num W' v _ _ _
  cases h with
  | low l hv hd hn hdB => exact .low l hv hd hn hdB
  | wide b x y hv hx hy h1 h2 hB h0 hd =>
    have hbR : b ≠ R := by
      intro e
      subst e
      obtain ⟨_, _, _, rfl, _⟩ := h1.form
      rw [World.cell?, hb] at hx
      have := hz _ (by simpa using hx)
      simp [Sym.noSl] at this
    exact .wide b x y hv ((ho.cell (p := ⟨b, 0, none⟩) hbR).trans hx) ((ho.cell (p := ⟨b, 1, none⟩) hbR).trans hy) (h1.other' hb ht ho) (h2.other' hb ht ho) hB h0 hd
namespace Sym
def clQ (r : Rat) (k : Nat) : Cl := ⟨4, true, fun w f => IsQ w (.agg #[f 0, f 1, f 2, f 3]) r ∧ Siz r k⟩
theorem clQ_ok {okT : List Nat} {B : Nat} (ht : ∀ t ∈ okT, t ≠ 23) (r : Rat) (k : Nat) : (clQ r k).Ok okT B := by
  refine ⟨fun w w' f hb h => ⟨h.1.below hb (Nat.le_refl _), h.2⟩, fun w w' R f cs t _ ho hm hz _ hb h => ⟨h.1.other' ho (ht t hm) hz hb, h.2⟩, ?_, ?_⟩
  · intro w f _ h
    obtain ⟨neg, a, b, p, hv⟩ := h.1.form
    injection hv with hv
    have : f 0 = .bool neg := by have := congrArg (fun x => x[0]?) hv; simpa using this
    rw [this]; rfl
  · intro w f j h hj
    obtain ⟨neg, a, b, p, hv⟩ := h.1.form
    injection hv with hv
    have h0 : f 0 = .bool neg := by have := congrArg (fun x => x[0]?) hv; simpa using this
    have h1 : f 1 = u a := by have := congrArg (fun x => x[1]?) hv; simpa using this
    have h2 : f 2 = u b := by have := congrArg (fun x => x[2]?) hv; simpa using this
    have h3 : f 3 = .pointer p := by have := congrArg (fun x => x[3]?) hv; simpa using this
    have hj : j < 4 := hj
    match j, hj with
    | 0, _ => rw [h0]; rfl
    | 1, _ => rw [h1]; rfl
    | 2, _ => rw [h2]; rfl
    | 3, _ => rw [h3]; rfl
def qp (c : Nat) : Pat := .agg [.cls c 4]
def sp (c d : Nat) : Pat := .agg [.cls c 4, .cls d 4]
section
variable {csz : List Nat} {numc : List Bool} {okT : List Nat} {nt : Nat} {cl : List Cl} {w0 : World} {w : World} {v : Value} {p1 p2 p3 p4 : Pat} {c d c1 c2 c3 c4 c5 c6 : Nat} {r s t r1 r2 r3 r4 : Rat} {k k1 k2 k3 k4 k5 k6 : Nat}
theorem cells4 (f : Nat → Value) : (List.range 4).map f = [f 0, f 1, f 2, f 3] := rfl
theorem qp_is (h : cl[c]? = some (clQ r k)) : (qp c).is (mkC csz numc okT nt cl w0) w v ↔ IsQ w v r ∧ Siz r k := by
  constructor
  · rintro ⟨vs, ⟨xs, ys, rfl, ⟨f, hE, rfl⟩, hy⟩, rfl⟩
    rw [show ys = [] from hy]
    simp only [mkC, h] at hE
    exact hE
  · rintro ⟨h1, h2⟩
    obtain ⟨neg, a, b, p, rfl⟩ := h1.form
    refine ⟨[.bool neg, u a, u b, .pointer p], ⟨_, [], (List.append_nil _).symm, ⟨fun j => [Value.bool neg, u a, u b, .pointer p].getD j undef, ?_, rfl⟩, rfl⟩, rfl⟩
    simp only [mkC, h]
    exact ⟨h1, h2⟩
theorem sp_is (h : cl[c]? = some (clQ r k)) (h' : cl[d]? = some (clQ s k1)) : (sp c d).is (mkC csz numc okT nt cl w0) w v ↔ IsS w v r s ∧ Siz r k ∧ Siz s k1 := by
  constructor
  · rintro ⟨vs, ⟨xs, ys, rfl, ⟨f, hE, rfl⟩, ⟨xs', ys', rfl, ⟨f', hE', rfl⟩, hy⟩⟩, rfl⟩
    rw [show ys' = [] from hy]
    simp only [mkC, h] at hE
    simp only [mkC, h'] at hE'
    obtain ⟨s1, a1, b1, p1, e1⟩ := hE.1.form
    obtain ⟨s2, a2, b2, p2, e2⟩ := hE'.1.form
    refine ⟨⟨s1, a1, b1, p1, s2, a2, b2, p2, ?_, e1 ▸ hE.1, e2 ▸ hE'.1⟩, hE.2, hE'.2⟩
    injection e1 with e1
    injection e2 with e2
    have g0 : f 0 = .bool s1 := by have := congrArg (fun x => x[0]?) e1; simpa using this
    have g1 : f 1 = u a1 := by have := congrArg (fun x => x[1]?) e1; simpa using this
    have g2 : f 2 = u b1 := by have := congrArg (fun x => x[2]?) e1; simpa using this
    have g3 : f 3 = .pointer p1 := by have := congrArg (fun x => x[3]?) e1; simpa using this
    have i0 : f' 0 = .bool s2 := by have := congrArg (fun x => x[0]?) e2; simpa using this
    have i1 : f' 1 = u a2 := by have := congrArg (fun x => x[1]?) e2; simpa using this
    have i2 : f' 2 = u b2 := by have := congrArg (fun x => x[2]?) e2; simpa using this
    have i3 : f' 3 = .pointer p2 := by have := congrArg (fun x => x[3]?) e2; simpa using this
    simp [cells4, g0, g1, g2, g3, i0, i1, i2, i3]
  · rintro ⟨⟨s1, a1, b1, p1, s2, a2, b2, p2, rfl, h1, h2⟩, z1, z2⟩
    refine ⟨[.bool s1, u a1, u b1, .pointer p1, .bool s2, u a2, u b2, .pointer p2], ⟨[.bool s1, u a1, u b1, .pointer p1], [.bool s2, u a2, u b2, .pointer p2], rfl, ⟨fun j => [Value.bool s1, u a1, u b1, .pointer p1].getD j undef, ?_, rfl⟩, ⟨_, [], (List.append_nil _).symm, ⟨fun j => [Value.bool s2, u a2, u b2, .pointer p2].getD j undef, ?_, rfl⟩, rfl⟩⟩, rfl⟩
    · simp only [mkC, h]; exact ⟨h1, z1⟩
    · simp only [mkC, h']; exact ⟨h2, z2⟩
def PQ (csz : List Nat) (numc : List Bool) (okT : List Nat) (nt : Nat) (cl : List Cl) (w0 : World) (p : Pat) (r : Rat) (k : Nat) : Prop := ∀ w v, p.is (mkC csz numc okT nt cl w0) w v → IsQ w v r ∧ Siz r k
def PS (csz : List Nat) (numc : List Bool) (okT : List Nat) (nt : Nat) (cl : List Cl) (w0 : World) (p : Pat) (r : Rat) (k : Nat) (s : Rat) (j : Nat) : Prop := ∀ w v, p.is (mkC csz numc okT nt cl w0) w v → IsS w v r s ∧ Siz r k ∧ Siz s j
theorem pq (h : cl[c]? = some (clQ r k)) : PQ csz numc okT nt cl w0 (qp c) r k := fun _ _ h1 => (qp_is h).1 h1
theorem ps (h : cl[c]? = some (clQ r k)) (h' : cl[d]? = some (clQ s k1)) : PS csz numc okT nt cl w0 (sp c d) r k s k1 := fun _ _ h1 => (sp_is h h').1 h1
def fits (n k : Nat) : Bool := Nat.ble n k && Nat.ble k 1000000
theorem fits_le {n k : Nat} (h : fits n k = true) : n ≤ k ∧ k ≤ 1000000 := by
  simp only [fits, Bool.and_eq_true] at h
  exact ⟨Nat.le_of_ble_eq_true h.1, Nat.le_of_ble_eq_true h.2⟩
theorem ent_qv {f : Nat} {x : Value} (hE : Enters Tryz.prog f) (h1 : PQ csz numc okT nt cl w0 p1 r k1)
    (hc : ∀ W v, Below w0.heap.size w0 W → IsQ W v r → Siz r k1 → Calls Tryz.prog f #[v] W (Val W x)) : V csz numc okT nt cl w0 (.call f) [p1] (.val (vp x)) := by
  refine ⟨hE, fun w vs hb hvs => ?_⟩
  obtain ⟨v1, _, rfl, h4, rfl⟩ := hvs
  have h4 := h1 _ _ h4
  refine (hc w v1 hb h4.1 h4.2).mono ?_
  rintro e w' ⟨rfl, hb'⟩
  exact ⟨_, rfl, vp_r _ _ _, hb'⟩
theorem ent_qqv {f : Nat} {x : Value} (hE : Enters Tryz.prog f) (h1 : PQ csz numc okT nt cl w0 p1 r k1) (h2 : PQ csz numc okT nt cl w0 p2 s k2)
    (hc : ∀ W v1 v2, Below w0.heap.size w0 W → IsQ W v1 r → Siz r k1 → IsQ W v2 s → Siz s k2 → Calls Tryz.prog f #[v1, v2] W (Val W x)) : V csz numc okT nt cl w0 (.call f) [p1, p2] (.val (vp x)) := by
  refine ⟨hE, fun w vs hb hvs => ?_⟩
  obtain ⟨v1, _, rfl, h4, v2, _, rfl, h5, rfl⟩ := hvs
  have h4 := h1 _ _ h4
  have h5 := h2 _ _ h5
  refine (hc w v1 v2 hb h4.1 h4.2 h5.1 h5.2).mono ?_
  rintro e w' ⟨rfl, hb'⟩
  exact ⟨_, rfl, vp_r _ _ _, hb'⟩
theorem ent_ss {f : Nat} (hE : Enters Tryz.prog f) (h1 : PS csz numc okT nt cl w0 p1 r1 k1 r2 k2) (h5 : cl[c5]? = some (clQ r k5)) (h6 : cl[c6]? = some (clQ s k6)) (hz : Siz r1 k1 → Siz r2 k2 → Siz r k5 ∧ Siz s k6)
    (hc : ∀ W v, Below w0.heap.size w0 W → IsS W v r1 r2 → Siz r1 k1 → Siz r2 k2 → Calls Tryz.prog f #[v] W (SpNew W r s)) : V csz numc okT nt cl w0 (.call f) [p1] (.val (sp c5 c6)) := by
  refine ⟨hE, fun w vs hb hvs => ?_⟩
  obtain ⟨v1, _, rfl, h7, rfl⟩ := hvs
  have h7 := h1 _ _ h7
  refine (hc w v1 hb h7.1 h7.2.1 h7.2.2).mono ?_
  rintro e w' ⟨v, rfl, hv, hb'⟩
  exact ⟨v, rfl, (sp_is h5 h6).2 ⟨hv, hz h7.2.1 h7.2.2⟩, hb'⟩
theorem ent_sss {f : Nat} (hE : Enters Tryz.prog f) (h1 : PS csz numc okT nt cl w0 p1 r1 k1 r2 k2) (h3 : PS csz numc okT nt cl w0 p3 r3 k3 r4 k4) (h5 : cl[c5]? = some (clQ r k5)) (h6 : cl[c6]? = some (clQ s k6))
    (hz : Siz r1 k1 → Siz r2 k2 → Siz r3 k3 → Siz r4 k4 → Siz r k5 ∧ Siz s k6)
    (hc : ∀ W v1 v2, Below w0.heap.size w0 W → IsS W v1 r1 r2 → IsS W v2 r3 r4 → Siz r1 k1 → Siz r2 k2 → Siz r3 k3 → Siz r4 k4 → Calls Tryz.prog f #[v1, v2] W (SpNew W r s)) : V csz numc okT nt cl w0 (.call f) [p1, p3] (.val (sp c5 c6)) := by
  refine ⟨hE, fun w vs hb hvs => ?_⟩
  obtain ⟨v1, _, rfl, h7, v2, _, rfl, h8, rfl⟩ := hvs
  have h7 := h1 _ _ h7
  have h8 := h3 _ _ h8
  refine (hc w v1 v2 hb h7.1 h8.1 h7.2.1 h7.2.2 h8.2.1 h8.2.2).mono ?_
  rintro e w' ⟨v, rfl, hv, hb'⟩
  exact ⟨v, rfl, (sp_is h5 h6).2 ⟨hv, hz h7.2.1 h7.2.2 h8.2.1 h8.2.2⟩, hb'⟩
theorem absQ_siz (z : Siz r k) : Siz (absQ r) k := by
  unfold absQ
  split
  · exact z.neg
  · exact z
theorem e_sign {x : Int} (h1 : PQ csz numc okT nt cl w0 p1 r k1) (hx : sign r = x) : V csz numc okT nt cl w0 (.call 19) [p1] (.val (vp (.int .i64 x))) :=
  ent_qv (enters_of Tryz.func19 (by kernel_rfl) rfl) h1 (fun W v _ q _ => hx ▸ sign_q v r W q)
theorem e_cmp {x : Int} (h1 : PQ csz numc okT nt cl w0 p1 r k1) (h2 : PQ csz numc okT nt cl w0 p2 s k2) (hk : fits (k1 + k2) 1000000 = true) (hx : cmpQ r s = x) : V csz numc okT nt cl w0 (.call 31) [p1, p2] (.val (vp (.int .i64 x))) := by
  have hk := fits_le hk
  exact ent_qqv (enters_of Tryz.func31 (by kernel_rfl) rfl) h1 h2 (fun W v1 v2 _ q1 z1 q2 z2 => hx ▸ cmp_q v1 v2 r s (k1 + k2) W q1 q2 (z1.le (by omega)) (z2.le (by omega)) (by omega))
theorem e_known (hG : Gr w0) : V csz numc okT nt cl w0 (.call 10) [] (.val (vp (.bool true))) := by
  refine ⟨enters_of Tryz.func10 (by kernel_rfl) rfl, fun w vs hb hvs => ?_⟩
  have hvs : vs = [] := hvs
  subst hvs
  refine (known_any w (hG.below hb hG.size)).mono ?_
  rintro e w' ⟨rfl, hb'⟩
  exact ⟨_, rfl, vp_r _ _ _, hb'⟩
end
end Sym
open Go Go.RowKit Go.Proofs Lim
namespace Sym
abbrev ii (n : Int) : Value := .int .i64 n
def Dg (w : World) (v : Value) (ds : List Nat) : Prop := ∃ ao cap, v = .slice ao ds.length cap ∧ ds.length ≤ cap ∧ (cap : Int) ≤ 9223372036854775807 ∧
  (0 < ds.length → ∃ b off, ao = some ⟨b, off, none⟩ ∧ (∃ cs fr, w.heap[b]? = some (.cells cs 3 fr)) ∧ ∀ i, i < ds.length → w.cell? ⟨b, off + i, none⟩ = some (ii ((ds.getD i 0 : Nat) : Int)))
theorem Dg.below {w w' : World} {v : Value} {ds : List Nat} {B : Nat} (h : Dg w v ds) (hb : Below B w w') (hB : w.heap.size ≤ B) : Dg w' v ds := by
  obtain ⟨ao, cap, hv, h1, h2, h3⟩ := h
  refine ⟨ao, cap, hv, h1, h2, fun hn => ?_⟩
  obtain ⟨b, off, ha, ⟨cs, fr, hc⟩, hr⟩ := h3 hn
  have hlt : b < B := Nat.lt_of_lt_of_le (Array.getElem?_eq_some_iff.1 hc).1 hB
  exact ⟨b, off, ha, ⟨cs, fr, (hb.block b hlt).trans hc⟩, fun i hi => (hb.cell (p := ⟨b, off + i, none⟩) hlt).trans (hr i hi)⟩
theorem Dg.only {w w' : World} {v : Value} {ds : List Nat} {R : Nat} {cs : Array Value} {t : TypeId} (hR : w.heap[R]? = some (.cells cs t (0, 0))) (ht : t ≠ 3) (h : Dg w v ds) (ho : Only R w w') : Dg w' v ds := by
  obtain ⟨ao, cap, hv, h1, h2, h3⟩ := h
  refine ⟨ao, cap, hv, h1, h2, fun hn => ?_⟩
  obtain ⟨b, off, ha, ⟨cs', fr, hc⟩, hr⟩ := h3 hn
  have hne : b ≠ R := by
    rintro rfl
    rw [hR] at hc
    injection hc with hc
    injection hc with _ hc
    exact ht hc
  exact ⟨b, off, ha, ⟨cs', fr, (ho.block b hne).trans hc⟩, fun i hi => (ho.cell (p := ⟨b, off + i, none⟩) hne).trans (hr i hi)⟩
theorem Dg.nil (w : World) : Dg w (.slice none 0 0) [] := ⟨none, 0, rfl, Nat.le_refl _, by decide, fun h => absurd h (by simp)⟩
theorem Dg.len {w : World} {v : Value} {ds : List Nat} (h : Dg w v ds) : (ds.length : Int) ≤ 9223372036854775807 := by
  obtain ⟨ao, cap, hv, h1, h2, h3⟩ := h
  omega
theorem Dg.take {w : World} {v : Value} {ds : List Nat} (h : Dg w v ds) {n : Nat} (hn : n ≤ ds.length) : ∃ ao cap, v = .slice ao ds.length cap ∧ ds.length ≤ cap ∧ Dg w (.slice ao n cap) (ds.take n) := by
  obtain ⟨ao, cap, hv, h1, h2, h3⟩ := h
  refine ⟨ao, cap, hv, h1, ao, cap, by simp [Nat.min_eq_left hn], by simp; omega, h2, fun hp => ?_⟩
  have hp : 0 < n := by simp at hp; omega
  obtain ⟨b, off, ha, hc, hr⟩ := h3 (by omega)
  refine ⟨b, off, ha, hc, fun i hi => ?_⟩
  have hi : i < n := by simp at hi; omega
  rw [hr i (by omega)]
  simp [List.getD, List.getElem?_take, hi]
def clD (ds : List Nat) : Cl := ⟨1, false, fun w f => Dg w (f 0) ds⟩
def clP (d : Nat) : Cl := ⟨1, true, fun w f => ∃ b off, f 0 = .pointer (some ⟨b, off, none⟩) ∧ (∃ cs fr, w.heap[b]? = some (.cells cs 3 fr)) ∧ w.cell? ⟨b, off, none⟩ = some (ii (d : Int))⟩
theorem clD_ok {okT : List Nat} {B : Nat} (ht : ∀ t ∈ okT, t ≠ 3) (ds : List Nat) : (clD ds).Ok okT B := by
  refine ⟨fun w w' f hb h => Dg.below h hb (Nat.le_refl _), fun w w' R f cs t _ ho hm _ _ hb h => Dg.only ho (ht t hm) h hb, fun _ _ h _ => absurd h (by simp [clD]), ?_⟩
  rintro w f j ⟨ao, cap, hv, _⟩ hj
  have hj : j < 1 := hj
  obtain rfl : j = 0 := by omega
  rw [hv]; rfl
def clF (B : Nat) (ds : List Nat) : Cl := ⟨1, false, fun w f => Dg w (f 0) ds ∧ ∀ k, (f 0).ownBlock = some k → B ≤ k⟩
theorem clF_ok {okT : List Nat} {B0 : Nat} (ht : ∀ t ∈ okT, t ≠ 3) (B : Nat) (ds : List Nat) : (clF B ds).Ok okT B0 := by
  refine ⟨fun w w' f hb h => ⟨Dg.below h.1 hb (Nat.le_refl _), h.2⟩, fun w w' R f cs t _ ho hm _ _ hb h => ⟨Dg.only ho (ht t hm) h.1 hb, h.2⟩, fun _ _ h _ => absurd h (by simp [clF]), ?_⟩
  rintro w f j ⟨⟨ao, cap, hv, _⟩, _⟩ hj
  have hj : j < 1 := hj
  obtain rfl : j = 0 := by omega
  rw [hv]; rfl
theorem clP_ok {okT : List Nat} {B : Nat} (ht : ∀ t ∈ okT, t ≠ 3) (d : Nat) : (clP d).Ok okT B := by
  refine ⟨?_, ?_, ?_, ?_⟩
  · rintro w w' f hb ⟨b, off, h1, ⟨cs, fr, h2⟩, h3⟩
    have hlt := (Array.getElem?_eq_some_iff.1 h2).1
    exact ⟨b, off, h1, ⟨cs, fr, (hb.block b hlt).trans h2⟩, (hb.cell (p := ⟨b, off, none⟩) hlt).trans h3⟩
  · rintro w w' R f cs t _ ho hm _ _ hb ⟨b, off, h1, ⟨cs', fr, h2⟩, h3⟩
    have hne : b ≠ R := by
      rintro rfl
      rw [ho] at h2
      injection h2 with h2
      injection h2 with _ h2
      exact ht t hm h2
    exact ⟨b, off, h1, ⟨cs', fr, (hb.block b hne).trans h2⟩, (hb.cell (p := ⟨b, off, none⟩) hne).trans h3⟩
  · rintro w f _ ⟨b, off, h1, _⟩
    rw [h1]; rfl
  · rintro w f j ⟨b, off, h1, _⟩ hj
    have hj : j < 1 := hj
    obtain rfl : j = 0 := by omega
    rw [h1]; rfl
section
variable {csz : List Nat} {numc : List Bool} {okT : List Nat} {nt : Nat} {cl : List Cl} {w0 : World} {w : World} {v z : Value} {p1 p2 p3 : Pat} {res : RPat} {c d c1 c2 c3 c4 c5 c6 : Nat} {ds es : List Nat} {x y : Int}
def PV (csz : List Nat) (numc : List Bool) (okT : List Nat) (nt : Nat) (cl : List Cl) (w0 : World) (p : Pat) (x : Value) : Prop := ∀ w v, p.is (mkC csz numc okT nt cl w0) w v → v = x
def RV (csz : List Nat) (numc : List Bool) (okT : List Nat) (nt : Nat) (cl : List Cl) (w0 : World) (r : RPat) (x : Value) : Prop := ∀ w, r.is (mkC csz numc okT nt cl w0) w x
def PD (csz : List Nat) (numc : List Bool) (okT : List Nat) (nt : Nat) (cl : List Cl) (w0 : World) (p : Pat) (ds : List Nat) : Prop := ∀ w v, Below w0.heap.size w0 w → p.is (mkC csz numc okT nt cl w0) w v → Dg w v ds
def RD (csz : List Nat) (numc : List Bool) (okT : List Nat) (nt : Nat) (cl : List Cl) (w0 : World) (r : RPat) (ds : List Nat) : Prop := ∀ w v, Dg w v ds → r.is (mkC csz numc okT nt cl w0) w v
theorem pv (h : cl[c]? = some (clV v)) : PV csz numc okT nt cl w0 (op c) v := fun _ _ h1 => (op_is h).1 h1
theorem pvl : PV csz numc okT nt cl w0 (vp v) v := fun _ _ h1 => vp_is.1 h1
theorem rv (h : cl[c]? = some (clV v)) : RV csz numc okT nt cl w0 (.val (op c)) v := fun _ => (op_is h).2 rfl
theorem rvl : RV csz numc okT nt cl w0 (.val (vp v)) v := fun _ => vp_r _ _ _
theorem op_isD (h : cl[c]? = some (clD ds)) : (op c).is (mkC csz numc okT nt cl w0) w v ↔ Dg w v ds := by
  constructor
  · rintro ⟨f, hE, hv⟩
    simp only [mkC, h] at hE
    have : v = f 0 := by simpa [List.range_succ] using hv
    rw [this]; exact hE
  · intro hv
    refine ⟨fun _ => v, ?_, rfl⟩
    simp only [mkC, h]
    exact hv
theorem pd (h : cl[c]? = some (clD ds)) : PD csz numc okT nt cl w0 (op c) ds := fun _ _ _ h1 => (op_isD h).1 h1
def PF (csz : List Nat) (numc : List Bool) (okT : List Nat) (nt : Nat) (cl : List Cl) (w0 : World) (p : Pat) (B : Nat) (ds : List Nat) : Prop := ∀ w v, Below w0.heap.size w0 w → p.is (mkC csz numc okT nt cl w0) w v → Dg w v ds ∧ ∀ k, v.ownBlock = some k → B ≤ k
def RF (csz : List Nat) (numc : List Bool) (okT : List Nat) (nt : Nat) (cl : List Cl) (w0 : World) (r : RPat) (B : Nat) (ds : List Nat) : Prop := ∀ w v, Dg w v ds → (∀ k, v.ownBlock = some k → B ≤ k) → r.is (mkC csz numc okT nt cl w0) w v
theorem op_isF {B : Nat} (h : cl[c]? = some (clF B ds)) : (op c).is (mkC csz numc okT nt cl w0) w v ↔ Dg w v ds ∧ ∀ k, v.ownBlock = some k → B ≤ k := by
  constructor
  · rintro ⟨f, hE, hv⟩
    simp only [mkC, h] at hE
    have : v = f 0 := by simpa [List.range_succ] using hv
    rw [this]; exact hE
  · intro hv
    refine ⟨fun _ => v, ?_, rfl⟩
    simp only [mkC, h]
    exact hv
theorem pf {B : Nat} (h : cl[c]? = some (clF B ds)) : PF csz numc okT nt cl w0 (op c) B ds := fun _ _ _ h1 => (op_isF h).1 h1
theorem rf {B : Nat} (h : cl[c]? = some (clF B ds)) : RF csz numc okT nt cl w0 (.val (op c)) B ds := fun _ _ h1 h2 => (op_isF h).2 ⟨h1, h2⟩
theorem PF.pd {B : Nat} {p : Pat} (h : PF csz numc okT nt cl w0 p B ds) : PD csz numc okT nt cl w0 p ds := fun w v hb hp => (h w v hb hp).1
theorem rd (h : cl[c]? = some (clD ds)) : RD csz numc okT nt cl w0 (.val (op c)) ds := fun _ _ h1 => (op_isD h).2 h1
theorem hd_bin {o : Oper} {op : BinOp} {t : Nat} {xs : List Operand} (h : opHd o = some (.bin op t, xs)) : ∃ x y u, o.op = .binOp op t x y u ∧ xs = [x, y] := by
  unfold opHd at h
  split at h <;> first
    | (rename_i h0; simp only [Option.some.injEq, Prod.mk.injEq, Hd.bin.injEq, reduceCtorEq, false_and] at h; try (obtain ⟨⟨rfl, rfl⟩, rfl⟩ := h; exact ⟨_, _, _, h0, rfl⟩))
    | (split at h <;> simp at h)
    | simp at h
theorem hd_ix {o : Oper} {t : Nat} {xs : List Operand} (h : opHd o = some (.ix t, xs)) : ∃ x y, o.op = .indexAddr t x y ∧ xs = [x, y] := by
  unfold opHd at h
  split at h <;> first
    | (rename_i h0; simp only [Option.some.injEq, Prod.mk.injEq, Hd.ix.injEq, reduceCtorEq, false_and] at h; try (obtain ⟨rfl, rfl⟩ := h; exact ⟨_, _, h0, rfl⟩))
    | (split at h <;> simp at h)
    | simp at h
theorem hd_ld {o : Oper} {t : Nat} {xs : List Operand} (h : opHd o = some (.ld t, xs)) : ∃ x, o.op = .load t x ∧ xs = [x] := by
  unfold opHd at h
  split at h <;> first
    | (rename_i h0; simp only [Option.some.injEq, Prod.mk.injEq, Hd.ld.injEq, reduceCtorEq, false_and] at h; try (obtain ⟨rfl, rfl⟩ := h; exact ⟨_, h0, rfl⟩))
    | (split at h <;> simp at h)
    | simp at h
theorem hd_cv {o : Oper} {s d : Nat} {xs : List Operand} (h : opHd o = some (.cv s d, xs)) : ∃ x, o.op = .convert s d x ∧ xs = [x] := by
  unfold opHd at h
  split at h <;> first
    | (rename_i h0; simp only [Option.some.injEq, Prod.mk.injEq, Hd.cv.injEq, reduceCtorEq, false_and] at h; try (obtain ⟨⟨rfl, rfl⟩, rfl⟩ := h; exact ⟨_, h0, rfl⟩))
    | (split at h <;> simp at h)
    | simp at h
theorem hd_sl {o : Oper} {t : Nat} {b1 b2 b3 : Bool} {xs : List Operand} (h : opHd o = some (.sl t b1 b2 b3, xs)) : ∃ x lo hi mx, o.op = .slice t x lo hi mx ∧ lo.isSome = b1 ∧ hi.isSome = b2 ∧ mx.isSome = b3 ∧ xs = x :: (lo.toList ++ hi.toList ++ mx.toList) := by
  unfold opHd at h
  split at h <;> first
    | (rename_i h0; simp only [Option.some.injEq, Prod.mk.injEq, Hd.sl.injEq, reduceCtorEq, false_and] at h; try (obtain ⟨⟨rfl, rfl, rfl, rfl⟩, rfl⟩ := h; exact ⟨_, _, _, _, h0, rfl, rfl, rfl, rfl⟩))
    | (split at h <;> simp at h)
    | simp at h
theorem hd_blt {o : Oper} {b : Builtin} {ats : List Nat} {t : Nat} {xs : List Operand} (h : opHd o = some (.blt b ats t, xs)) : ∃ c, o.op = .call c ∧ c.callee = .builtin b ∧ c.argTypes = ats.toArray ∧ o.type = t ∧ xs = c.args.toList := by
  unfold opHd at h
  split at h <;> first
    | (rename_i c h0
       split at h
       · rename_i b' h1
         simp only [Option.some.injEq, Prod.mk.injEq, Hd.blt.injEq] at h
         obtain ⟨⟨rfl, rfl, rfl⟩, rfl⟩ := h
         exact ⟨_, h0, h1, by simp, rfl, rfl⟩
       · simp at h)
    | (split at h <;> simp at h)
    | simp at h
theorem e_bin {o : BinOp} {t : Nat} {k : IntKind} (h1 : PV csz numc okT nt cl w0 p1 (.int k x)) (h2 : PV csz numc okT nt cl w0 p2 (.int k y)) (h3 : RV csz numc okT nt cl w0 res z)
    (hr : ∀ w, (Go.binOp o t (.int k x) (.int k y)).run Tryz.prog w = .ok z w) : V csz numc okT nt cl w0 (.bin o t) [p1, p2] res := by
  intro w ρ oo xs ho hb hvs
  obtain ⟨a, b, u, hop, rfl⟩ := hd_bin ho
  obtain ⟨v1, _, e1, h4, v2, _, e2, h5, e3⟩ := hvs
  obtain rfl := h1 _ _ h4
  obtain rfl := h2 _ _ h5
  subst e2
  simp only [List.map_cons, List.map_nil, List.cons.injEq] at e1
  obtain ⟨ea, eb, _⟩ := e1
  refine ⟨z, w, ?_, h3 w, Below.refl _ _⟩
  have hg : (eqGuard o t a b (.int k x) (.int k y)).run Tryz.prog w = .ok () w := by
    unfold eqGuard
    cases o <;> rfl
  show (execOp ρ oo).run Tryz.prog w = _
  simp only [execOp, hop, ea, eb, Sem.run_bind, hg, hr w, Result.andThen_ok]
  rfl
theorem size_int (w : World) : (sizeOf 3).run Tryz.prog w = .ok 1 w := ev_run (by kernel_rfl) w
theorem agg_int (w : World) : (isAgg 3).run Tryz.prog w = .ok false w := ev_run (by kernel_rfl) w
theorem e_len {t : Nat} (ht : Tryz.prog.underlying t = some (.slice (Tryz.prog.elem t))) (h1 : PD csz numc okT nt cl w0 p1 ds) (h3 : RV csz numc okT nt cl w0 res (ii (ds.length : Int))) : V csz numc okT nt cl w0 (.blt .len [t] 3) [p1] res := by
  intro w ρ oo xs ho hb hvs
  obtain ⟨c, hop, hc, hat, hty, rfl⟩ := hd_blt ho
  obtain ⟨v1, _, e1, h4, e2⟩ := hvs
  subst e2
  obtain ⟨ao, cap, rfl, _⟩ := h1 _ _ hb h4
  refine ⟨_, w, ?_, h3 w, Below.refl _ _⟩
  have he : c.args.map ρ = #[Value.slice ao ds.length cap] := by
    apply Array.ext'
    simpa using e1
  show (execOp ρ oo).run Tryz.prog w = _
  simp only [execOp, hop, resolve, hc, he, Sem.run_bind, Sem.run_pure, Result.andThen_ok, invoke, builtin, hat, hty]
  simp [Sem.run_bind, run_len_slice _ _ _ _ _ _ ht, Result.andThen, goInt]
theorem e_ix {t : Nat} {n : Nat} (ht : Tryz.prog.underlying t = some (.slice (Tryz.prog.elem t))) (he : Tryz.prog.elem t = 3) (h1 : PD csz numc okT nt cl w0 p1 ds) (h2 : PV csz numc okT nt cl w0 p2 (ii (n : Int))) (hn : n < ds.length) (h3 : cl[c]? = some (clP (ds.getD n 0))) : V csz numc okT nt cl w0 (.ix t) [p1, p2] (.val (op c)) := by
  intro w ρ oo xs ho hb hvs
  obtain ⟨a, b, hop, rfl⟩ := hd_ix ho
  obtain ⟨v1, _, e1, h4, v2, _, e2, h5, e3⟩ := hvs
  obtain rfl := h2 _ _ h5
  subst e2
  simp only [List.map_cons, List.map_nil, List.cons.injEq] at e1
  obtain ⟨ea, eb, _⟩ := e1
  obtain ⟨ao, cap, rfl, h6, h7, h8⟩ := h1 _ _ hb h4
  obtain ⟨k, off, rfl, hcs, hr⟩ := h8 (by omega)
  refine ⟨.pointer (some ⟨k, off + n, none⟩), w, ?_, ⟨fun _ => .pointer (some ⟨k, off + n, none⟩), ?_, rfl⟩, Below.refl _ _⟩
  · show (execOp ρ oo).run Tryz.prog w = _
    have hs : (sizeOf (Tryz.prog.elem t)).run Tryz.prog w = .ok 1 w := by rw [he]; exact size_int w
    simp only [execOp, hop, ea, eb, Sem.run_bind, run_indexAt_slice _ _ _ _ _ _ _ ht]
    rw [if_pos (by omega)]
    simp [hs, Result.andThen, Addr.add]
  · simp only [mkC, h3]
    exact ⟨k, off + n, rfl, hcs, hr n hn⟩
theorem e_ld {d : Nat} (h1 : cl[c]? = some (clP d)) (h3 : RV csz numc okT nt cl w0 res (ii (d : Int))) : V csz numc okT nt cl w0 (.ld 3) [op c] res := by
  intro w ρ oo xs ho hb hvs
  obtain ⟨a, hop, rfl⟩ := hd_ld ho
  obtain ⟨v1, _, e1, ⟨f, hE, hv⟩, e2⟩ := hvs
  subst e2
  simp only [mkC, h1] at hE
  have hv : v1 = f 0 := by simpa [List.range_succ] using hv
  simp only [List.map_cons, List.map_nil, List.cons.injEq] at e1
  obtain ⟨ea, _⟩ := e1
  obtain ⟨k, off, hf, _, hc⟩ := hE
  refine ⟨_, w, ?_, h3 w, Below.refl _ _⟩
  show (execOp ρ oo).run Tryz.prog w = _
  rw [hf] at hv
  simp only [execOp, hop, ea, hv, Instr.loadAt, Instr.sureAddr, Sem.run_bind, Sem.run_pure, Result.andThen_ok, loadVar, agg_int]
  simp [hc]
theorem e_take {t : Nat} {n : Nat} (ht : Tryz.prog.underlying t = some (.slice (Tryz.prog.elem t))) (he : Tryz.prog.elem t = 3) (h1 : PD csz numc okT nt cl w0 p1 ds) (h2 : PV csz numc okT nt cl w0 p2 (ii (n : Int))) (hn : n ≤ ds.length) (h3 : RD csz numc okT nt cl w0 res (ds.take n)) : V csz numc okT nt cl w0 (.sl t false true false) [p1, p2] res := by
  intro w ρ oo xs ho hb hvs
  obtain ⟨a, lo, hi, mx, hop, q1, q2, q3, rfl⟩ := hd_sl ho
  obtain rfl : lo = none := by cases lo <;> simp_all
  obtain rfl : mx = none := by cases mx <;> simp_all
  obtain ⟨b, rfl⟩ := Option.isSome_iff_exists.1 q2
  obtain ⟨v1, _, e1, h4, v2, _, e2, h5, e3⟩ := hvs
  obtain rfl := h2 _ _ h5
  subst e2
  simp only [Option.toList, List.nil_append, List.append_nil, List.map_cons, List.map_nil, List.cons.injEq] at e1
  obtain ⟨ea, eb, _⟩ := e1
  obtain ⟨ao, cap, rfl, h6, h7⟩ := (h1 _ _ hb h4).take hn
  refine ⟨_, w, ?_, h3 w _ h7, Below.refl _ _⟩
  show (execOp ρ oo).run Tryz.prog w = _
  have hs : (sizeOf (Tryz.prog.elem t)).run Tryz.prog w = .ok 1 w := by rw [he]; exact size_int w
  have hsl := run_slice_h (P := Tryz.prog) w t ao ds.length cap ht .i64 (n : Int) (by omega) (by omega)
  simp only [execOp, hop, ea, eb, Sem.run_bind, Option.map_none, Option.map_some, run_sliceAt_slice _ _ _ _ _ _ ht, hsl, hs, Result.andThen_ok, sliced]
  simp only [Nat.zero_mul, Int.toNat_natCast, Nat.sub_zero]
  have hz : ao.map (fun x => x.add 0) = ao := by cases ao <;> simp [Addr.add]
  rw [hz]
  simp
theorem e_takeF {t : Nat} {n B : Nat} (ht : Tryz.prog.underlying t = some (.slice (Tryz.prog.elem t))) (he : Tryz.prog.elem t = 3) (h1 : PF csz numc okT nt cl w0 p1 B ds) (h2 : PV csz numc okT nt cl w0 p2 (ii (n : Int))) (hn : n ≤ ds.length) (h3 : RF csz numc okT nt cl w0 res B (ds.take n)) : V csz numc okT nt cl w0 (.sl t false true false) [p1, p2] res := by
  intro w ρ oo xs ho hb hvs
  obtain ⟨a, lo, hi, mx, hop, q1, q2, q3, rfl⟩ := hd_sl ho
  obtain rfl : lo = none := by cases lo <;> simp_all
  obtain rfl : mx = none := by cases mx <;> simp_all
  obtain ⟨b, rfl⟩ := Option.isSome_iff_exists.1 q2
  obtain ⟨v1, _, e1, h4, v2, _, e2, h5, e3⟩ := hvs
  obtain rfl := h2 _ _ h5
  subst e2
  simp only [Option.toList, List.nil_append, List.append_nil, List.map_cons, List.map_nil, List.cons.injEq] at e1
  obtain ⟨ea, eb, _⟩ := e1
  obtain ⟨g1, g2⟩ := h1 _ _ hb h4
  obtain ⟨ao, cap, rfl, h6, h7⟩ := g1.take hn
  refine ⟨_, w, ?_, h3 w _ h7 (fun k hk => g2 k (by cases ao <;> first | (simp [Value.ownBlock] at hk; done) | simpa [Value.ownBlock] using hk)), Below.refl _ _⟩
  show (execOp ρ oo).run Tryz.prog w = _
  have hs : (sizeOf (Tryz.prog.elem t)).run Tryz.prog w = .ok 1 w := by rw [he]; exact size_int w
  have hsl := run_slice_h (P := Tryz.prog) w t ao ds.length cap ht .i64 (n : Int) (by omega) (by omega)
  simp only [execOp, hop, ea, eb, Sem.run_bind, Option.map_none, Option.map_some, run_sliceAt_slice _ _ _ _ _ _ ht, hsl, hs, Result.andThen_ok, sliced]
  simp only [Nat.zero_mul, Int.toNat_natCast, Nat.sub_zero]
  have hz : ao.map (fun x => x.add 0) = ao := by cases ao <;> simp [Addr.add]
  rw [hz]
  simp
theorem e_max {ats : List Nat} {t : Nat} (h1 : PV csz numc okT nt cl w0 p1 (ii x)) (h2 : PV csz numc okT nt cl w0 p2 (ii y)) (h3 : RV csz numc okT nt cl w0 res (ii (if y > x then y else x))) : V csz numc okT nt cl w0 (.blt .max ats t) [p1, p2] res := by
  intro w ρ oo xs ho hb hvs
  obtain ⟨c, hop, hc, hat, hty, rfl⟩ := hd_blt ho
  obtain ⟨v1, _, e1, h4, v2, _, e2, h5, e3⟩ := hvs
  obtain rfl := h1 _ _ h4
  obtain rfl := h2 _ _ h5
  subst e2
  subst e3
  refine ⟨_, w, ?_, h3 w, Below.refl _ _⟩
  have he : c.args.map ρ = #[ii x, ii y] := by
    apply Array.ext'
    simpa using e1
  show (execOp ρ oo).run Tryz.prog w = _
  simp only [execOp, hop, resolve, hc, he, Sem.run_bind, Sem.run_pure, Result.andThen_ok, invoke, builtin, run_max_int2]
theorem e_add {t : Nat} {u : Int} (hz : x + y = u) (h1 : PV csz numc okT nt cl w0 p1 (ii x)) (h2 : PV csz numc okT nt cl w0 p2 (ii y)) (h3 : RV csz numc okT nt cl w0 res (ii u)) (hr : -9223372036854775808 ≤ u ∧ u ≤ 9223372036854775807) : V csz numc okT nt cl w0 (.bin .add t) [p1, p2] res :=
  e_bin h1 h2 h3 (fun w => by
    show Result.ok (Value.int .i64 (IntKind.i64.wrap (x + y))) w = _
    rw [hz, show IntKind.i64.wrap u = u by rw [IntKind.wrap_i64]; omega])
theorem e_sub {t : Nat} {u : Int} (hz : x - y = u) (h1 : PV csz numc okT nt cl w0 p1 (ii x)) (h2 : PV csz numc okT nt cl w0 p2 (ii y)) (h3 : RV csz numc okT nt cl w0 res (ii u)) (hr : -9223372036854775808 ≤ u ∧ u ≤ 9223372036854775807) : V csz numc okT nt cl w0 (.bin .sub t) [p1, p2] res :=
  e_bin h1 h2 h3 (fun w => by
    show Result.ok (Value.int .i64 (IntKind.i64.wrap (x - y))) w = _
    rw [hz, show IntKind.i64.wrap u = u by rw [IntKind.wrap_i64]; omega])
theorem e_mul {t : Nat} {u : Int} (hz : x * y = u) (h1 : PV csz numc okT nt cl w0 p1 (ii x)) (h2 : PV csz numc okT nt cl w0 p2 (ii y)) (h3 : RV csz numc okT nt cl w0 res (ii u)) (hr : -9223372036854775808 ≤ u ∧ u ≤ 9223372036854775807) : V csz numc okT nt cl w0 (.bin .mul t) [p1, p2] res :=
  e_bin h1 h2 h3 (fun w => by
    show Result.ok (Value.int .i64 (IntKind.i64.wrap (x * y))) w = _
    rw [hz, show IntKind.i64.wrap u = u by rw [IntKind.wrap_i64]; omega])
theorem e_rem {t : Nat} {k : IntKind} {m n : Nat} (h1 : PV csz numc okT nt cl w0 p1 (.int k (m : Int))) (h2 : PV csz numc okT nt cl w0 p2 (.int k (n : Int))) (h3 : RV csz numc okT nt cl w0 res (.int k ((m % n : Nat) : Int))) (hn : 0 < n) : V csz numc okT nt cl w0 (.bin .rem t) [p1, p2] res :=
  e_bin h1 h2 h3 (fun w => by
    rw [binOp_rem, Op.intDiv, if_neg (by omega)]
    show Result.ok (Value.int k ((m : Int).tmod (n : Int))) w = _
    rw [show (m : Int).tmod (n : Int) = ((m % n : Nat) : Int) by rw [Int.tmod_eq_emod_of_nonneg (by omega)]; rfl])
theorem e_quo {t : Nat} {k : IntKind} {m n : Nat} (h1 : PV csz numc okT nt cl w0 p1 (.int k (m : Int))) (h2 : PV csz numc okT nt cl w0 p2 (.int k (n : Int))) (h3 : RV csz numc okT nt cl w0 res (.int k ((m / n : Nat) : Int))) (hn : 0 < n) (hw : k.wrap ((m / n : Nat) : Int) = ((m / n : Nat) : Int)) : V csz numc okT nt cl w0 (.bin .quo t) [p1, p2] res :=
  e_bin h1 h2 h3 (fun w => by
    rw [binOp_quo, Op.intDiv, if_neg (by omega)]
    show Result.ok (Value.int k (k.wrap ((m : Int).tdiv (n : Int)))) w = _
    rw [show (m : Int).tdiv (n : Int) = ((m / n : Nat) : Int) by rw [Int.tdiv_eq_ediv_of_nonneg (by omega)]; rfl, hw])
theorem e_cv {s d : Nat} {k k' : IntKind} (hs : (Tryz.prog.underlying s).isSome = true) (hd : Tryz.prog.underlying d = some (.int (Tryz.prog.intKind d))) (hk : Tryz.prog.intKind d = k') (h1 : PV csz numc okT nt cl w0 p1 (.int k x)) (h3 : RV csz numc okT nt cl w0 res (.int k' x)) (hw : k'.wrap x = x) : V csz numc okT nt cl w0 (.cv s d) [p1] res := by
  intro w ρ oo xs ho hb hvs
  obtain ⟨a, hop, rfl⟩ := hd_cv ho
  obtain ⟨v1, _, e1, h4, e2⟩ := hvs
  obtain rfl := h1 _ _ h4
  subst e2
  simp only [List.map_cons, List.map_nil, List.cons.injEq] at e1
  obtain ⟨ea, _⟩ := e1
  refine ⟨_, w, ?_, h3 w, Below.refl _ _⟩
  show (execOp ρ oo).run Tryz.prog w = _
  simp only [execOp, hop, ea, Sem.run_bind, run_convert_int _ _ _ _ _ hs hd, hk, hw, Result.andThen_ok]
  rfl
theorem e_lss {t : Nat} {k : IntKind} {b : Bool} (h1 : PV csz numc okT nt cl w0 p1 (.int k x)) (h2 : PV csz numc okT nt cl w0 p2 (.int k y)) (hb : decide (x < y) = b) : V csz numc okT nt cl w0 (.bin .lss t) [p1, p2] (.val (vp (.bool b))) :=
  e_bin h1 h2 rvl (fun w => by subst hb; cases k <;> rfl)
theorem e_leq {t : Nat} {k : IntKind} {b : Bool} (h1 : PV csz numc okT nt cl w0 p1 (.int k x)) (h2 : PV csz numc okT nt cl w0 p2 (.int k y)) (hb : decide (x ≤ y) = b) : V csz numc okT nt cl w0 (.bin .leq t) [p1, p2] (.val (vp (.bool b))) :=
  e_bin h1 h2 rvl (fun w => by subst hb; cases k <;> rfl)
theorem e_gtr {t : Nat} {k : IntKind} {b : Bool} (h1 : PV csz numc okT nt cl w0 p1 (.int k x)) (h2 : PV csz numc okT nt cl w0 p2 (.int k y)) (hb : decide (x > y) = b) : V csz numc okT nt cl w0 (.bin .gtr t) [p1, p2] (.val (vp (.bool b))) :=
  e_bin h1 h2 rvl (fun w => by subst hb; cases k <;> rfl)
theorem e_geq {t : Nat} {k : IntKind} {b : Bool} (h1 : PV csz numc okT nt cl w0 p1 (.int k x)) (h2 : PV csz numc okT nt cl w0 p2 (.int k y)) (hb : decide (x ≥ y) = b) : V csz numc okT nt cl w0 (.bin .geq t) [p1, p2] (.val (vp (.bool b))) :=
  e_bin h1 h2 rvl (fun w => by subst hb; cases k <;> rfl)
theorem e_eql {t : Nat} {k : IntKind} {b : Bool} (h1 : PV csz numc okT nt cl w0 p1 (.int k x)) (h2 : PV csz numc okT nt cl w0 p2 (.int k y)) (hb : decide (x = y) = b) : V csz numc okT nt cl w0 (.bin .eql t) [p1, p2] (.val (vp (.bool b))) :=
  e_bin h1 h2 rvl (fun w => by subst hb; cases k <;> rfl)
end
end Sym
open Go Go.RowKit Go.Proofs Lim
namespace Sym
def argItems : Nat → List Pat → List Item
  | _, [] => []
  | j, p :: ps => .val j p :: argItems (j + 1) ps
section
variable {C : Ctx} {T : List Ent} {a : Act} {w : World}
theorem argItems_are : ∀ {ps : List Pat} {vs : List Value} {j : Nat} {bs : List Nat}, PatsAre C w ps vs → (∀ i v, vs[i]? = some v → a.tmps[j + i]? = some v) → ItemsAre C a w (argItems j ps) bs
  | [], _, _, _, _, _ => trivial
  | p :: ps, _, j, bs, ⟨v, ws, h1, h2, h3⟩, hs => by
    subst h1
    exact ⟨⟨v, by simpa using hs 0 v rfl, h2⟩, argItems_are h3 (fun i x hx => by
      have := hs (i + 1) x (by simpa using hx)
      rw [show j + 1 + i = j + (i + 1) by omega]
      exact this)⟩
theorem calls_at {f : FuncId} {fn : Func} {c : Code} (hf : C.P.funcs[f]? = some fn) (hb : fn.body = some c) (hnt : fn.ntmps = C.nt) {args : List Pat} (hlen : args.length ≤ C.nt) {vs : List Value} (hvs : PatsAre C C.w0 args vs) {Q : Ending → World → Prop}
    (h : ∀ a, At C (argItems 0 args) a C.w0 → c.wp C.P (bodyPost C.P fn Q) a C.w0) : Calls C.P f vs.toArray C.w0 Q := by
  refine calls_of_wp hf hb (h _ ⟨Below.refl _ _, rfl, ?_, ?_⟩)
  · have := hvs.length
    simp only [Array.size_append, List.size_toArray, Array.size_replicate]
    omega
  · refine argItems_are hvs (fun i v hi => ?_)
    have hil : i < vs.length := by
      rcases Nat.lt_or_ge i vs.length with h | h
      · exact h
      · simp [List.getElem?_eq_none h] at hi
    show (vs.toArray ++ Array.replicate (fn.ntmps - vs.toArray.size) undef)[0 + i]? = some v
    rw [Nat.zero_add, Array.getElem?_append_left (by simpa using hil)]
    simpa using hi
theorem at_ret {fn : Func} {t : Nat} {p : Pat} {l : List Item} (hr : fn.results = #[.tmp t]) (hA : At C (.val t p :: l) a w) {Q : Ending → World → Prop} (h : ∀ v, p.is C w v → Q (.returned v) w) : bodyPost C.P fn Q .ret a w := by
  obtain ⟨⟨v, h1, h2⟩, _⟩ := hA.items
  refine ⟨hA.defers, v, ?_, h v h2⟩
  rw [results_eq, hr]
  have : a.tmps.getD t undef = v := by rw [Array.getD_eq_getD_getElem?, h1]; rfl
  simp [resF, this]
theorem while_is {P : Program} {id : Nat} {c : Code} {Q : Exit → Act → World → Prop} {Θ : Type} (I : Θ → Act → World → Prop) (μ : Θ → Nat)
    (round : ∀ θ a w, I θ a w → c.wp P (Exit.then (fun a' w' => ∃ θ', I θ' a' w' ∧ μ θ' < μ θ) (Exit.inBlock id Q)) a w) (θ : Θ) (h0 : I θ a w) : (Code.block id (.loop c)).wp P Q a w :=
  wp_block (loop_is I μ round θ h0)
def rOf : List (Nat × Nat) → Nat → Nat
  | [], _ => 1000000
  | (c, d) :: l, x => if x = c then d else rOf l x
theorem rOf_some {cl cl' : List Cl} (hz : cl[1000000]? = none) : ∀ {l : List (Nat × Nat)} {c : Nat} {x : Cl}, (∀ p ∈ l, cl[p.2]? = cl'[p.1]?) → cl[rOf l c]? = some x → cl'[c]? = some x
  | [], c, x, _, hx => by
    simp only [rOf, hz] at hx
    cases hx
  | (c0, d) :: l, c, x, h, hx => by
    unfold rOf at hx
    split at hx
    · rename_i hc
      subst hc
      have := h (c, d) (by simp)
      rw [← this]
      exact hx
    · exact rOf_some hz (fun p hp => h p (List.mem_cons_of_mem _ hp)) hx
theorem at_re {csz csz' : List Nat} {numc numc' : List Bool} {okT okT' : List Nat} {nt : Nat} {cl cl' : List Cl} {w0 : World} {is is' : List Item}
    (hA : At (mkC csz numc okT nt cl w0) is' a w) (l : List (Nat × Nat)) (h : ∀ p ∈ l, cl[p.2]? = cl'[p.1]?) (hz : cl[1000000]? = none) (hl : is' = is.map (Item.re (rOf l))) : At (mkC csz' numc' okT' nt cl' w0) is a w := by
  refine At.re (C := mkC csz numc okT nt cl w0) (C' := mkC csz' numc' okT' nt cl' w0) (r := rOf l) (fun c f hE => ?_) rfl rfl hl hA
  simp only [mkC] at hE ⊢
  split at hE
  · rename_i x hx
    rw [rOf_some hz h hx]
    exact hE
  · exact hE.elim
theorem prs_nil {P : Nat × Nat → Prop} : ∀ t ∈ ([] : List (Nat × Nat)), P t := fun t h => by simp at h
theorem prs_cons {P : Nat × Nat → Prop} {a : Nat × Nat} {l : List (Nat × Nat)} (h : P a) (k : ∀ t ∈ l, P t) : ∀ t ∈ a :: l, P t := fun t ht => by
  rcases List.mem_cons.1 ht with rfl | ht
  · exact h
  · exact k t ht
end
section
variable {C : Ctx} {T : List Ent} {a : Act} {w : World} {Q : Exit → Act → World → Prop} {ops : Array Oper}
def opsE (S : Stat) (T : List Ent) : List Oper → St → Option St
  | [], st => some st
  | o :: l, st => match o.guard with
    | none => match stepOp S T (fun k => find k st.m) st.nb o with
      | some ws => opsE S T l ⟨st.nb + 1, ws ++ st.m⟩
      | none => none
    | some _ => none
theorem step_sat (hC : C.Ok) (hT : ∀ t ∈ T, t.Valid C) {st : St} {ws : Ws} {o : Oper} (h : stepOp C.toStat T (fun k => find k st.m) st.nb o = some ws) (hs : Sat C st a w) {K : Act → World → Prop} (hK : ∀ a' w', Sat C ⟨st.nb + 1, ws ++ st.m⟩ a' w' → K a' w') : o.wp C.P a w K Q := by
  obtain ⟨e, hk, hg, h1, h2⟩ := hs
  refine stepOp_is hC hT hk hg ?_ ?_ h ?_
  · cases he : e.ρ st.nb with
    | none => rfl
    | some k => have := h1 _ _ he; omega
  · intro x hx
    cases he : e.ν x with
    | none => rfl
    | some f => have := h2 _ _ he; omega
  · intro e' a' w' hx hρ hν hg' hnew hfr
    refine hK a' w' ⟨e', ?_, hg', ?_, ?_⟩
    · intro k v hkv
      have hkv : find k (ws ++ st.m) = some v := hkv
      rw [find_append] at hkv
      cases hf : find k ws with
      | some x =>
        rw [hf] at hkv
        injection hkv with hkv; subst hkv
        exact hnew k _ (find_mem hf)
      | none =>
        rw [hf] at hkv
        exact hfr k v (hk k v hkv) hf
    · intro b k hb
      show b < st.nb + 1
      rcases hρ b k hb with h | h
      · have := h1 b k h; omega
      · omega
    · intro s f hs'
      show s / 8 < st.nb + 1
      rcases hν s f hs' with h | h
      · have := h2 s f h; omega
      · omega
theorem opsE_is (hC : C.Ok) (hT : ∀ t ∈ T, t.Valid C) : ∀ {l rest : List Oper} {st st' : St} {a : Act} {w : World}, opsE C.toStat T l st = some st' → Sat C st a w → (∀ a' w', Sat C st' a' w' → wpList C.P ops Q rest a' w') → wpList C.P ops Q (l ++ rest) a w
  | [], rest, st, st', a, w, h, hs, hQ => by
    simp [opsE] at h; subst h
    exact hQ a w hs
  | o :: l, rest, st, st', a, w, h, hs, hQ => by
    unfold opsE at h
    split at h
    · rename_i hg
      split at h
      · rename_i ws hw
        refine wpList_plain hg (fun K hK => step_sat hC hT hw hs (fun a' w' hs' => hK a' w' (opsE_is hC hT h hs' hQ)))
      · cases h
    · cases h
def opsB (S : Stat) (T : List Ent) (l : List Oper) (pre post : List Item) : Bool :=
  match entry pre 0 with
  | some ws => match opsE S T l ⟨pre.length, ws⟩ with
    | some st' => meets (fun k => find k st'.m) post []
    | none => false
  | none => false
theorem ops_is (hC : C.Ok) (hT : ∀ t ∈ T, t.Valid C) {l rest : List Oper} {pre post : List Item} (h : opsB C.toStat T l pre post = true) (hA : At C pre a w) (hQ : ∀ a' w', At C post a' w' → wpList C.P ops Q rest a' w') : wpList C.P ops Q (l ++ rest) a w := by
  unfold opsB at h
  split at h
  · rename_i ws hws
    split at h
    · rename_i st' he
      exact opsE_is hC hT he (hA.sat hws) (fun a' w' hs => hQ a' w' (hs.meet h))
    · cases h
  · cases h
theorem ops_end (hC : C.Ok) (hT : ∀ t ∈ T, t.Valid C) {l : List Oper} {pre post : List Item} (h : opsB C.toStat T l pre post = true) (hA : At C pre a w) (hQ : ∀ a' w', At C post a' w' → Q .normal a' w') : wpList C.P ops Q l a w := by
  have := ops_is (rest := []) hC hT (ops := ops) (Q := Q) h hA hQ
  rwa [List.append_nil] at this
def opsOf : Code → List Oper
  | .region _ ops _ => ops.toList
  | _ => []
end
def clW (v : Value) : Cl := ⟨1, false, fun _ f => f 0 = v⟩
theorem clW_ok {okT : List Nat} {B : Nat} {v : Value} (hv : v.oneCell' = true) : (clW v).Ok okT B := by
  refine ⟨fun w w' f hb h => h, fun w w' R f cs t _ ho hm hz _ hb h => h, fun _ _ h _ => absurd h (by simp [clW]), ?_⟩
  intro w f j h hj
  have hj : j < 1 := hj
  obtain rfl : j = 0 := by omega
  rw [show f 0 = v from h]
  exact hv
section
variable {csz : List Nat} {numc : List Bool} {okT : List Nat} {nt : Nat} {cl : List Cl} {w0 : World} {w : World} {v : Value} {c : Nat} {a : Act}
theorem op_isW {x : Value} (h : cl[c]? = some (clW x)) : (op c).is (mkC csz numc okT nt cl w0) w v ↔ v = x := by
  constructor
  · rintro ⟨f, hE, hv⟩
    simp only [mkC, h] at hE
    have : v = f 0 := by simpa [List.range_succ] using hv
    rw [this]; exact hE
  · rintro rfl
    refine ⟨fun _ => v, ?_, rfl⟩
    simp only [mkC, h]
    rfl
theorem pvW {x : Value} (h : cl[c]? = some (clW x)) : PV csz numc okT nt cl w0 (op c) x := fun _ _ h1 => (op_isW h).1 h1
theorem rvW {x : Value} (h : cl[c]? = some (clW x)) : RV csz numc okT nt cl w0 (.val (op c)) x := fun _ => (op_isW h).2 rfl
theorem pdW {x : Value} {ds : List Nat} (h : cl[c]? = some (clW x)) (hx : Dg w0 x ds) : PD csz numc okT nt cl w0 (op c) ds := fun w v hb h1 => by
  rw [(op_isW h).1 h1]
  exact hx.below hb (Nat.le_refl _)
theorem at_of (vals : List (Nat × Nat × Value)) (hd : a.defers = []) (hs : a.tmps.size = nt) (h : ∀ p ∈ vals, a.tmps[p.1]? = some p.2.2 ∧ cl[p.2.1]? = some (clW p.2.2)) : At (mkC csz numc okT nt cl w) (vals.map (fun p => Item.val p.1 (op p.2.1))) a w := by
  refine ⟨Below.refl _ _, hd, hs, ?_⟩
  have key : ∀ (vals : List (Nat × Nat × Value)) bs, (∀ p ∈ vals, a.tmps[p.1]? = some p.2.2 ∧ cl[p.2.1]? = some (clW p.2.2)) → ItemsAre (mkC csz numc okT nt cl w) a w (vals.map (fun p => Item.val p.1 (op p.2.1))) bs := by
    intro vals
    induction vals with
    | nil => intro _ _; trivial
    | cons p l ih => exact fun bs h => ⟨⟨p.2.2, (h p (by simp)).1, (op_isW (h p (by simp)).2).2 rfl⟩, ih bs (fun q hq => h q (List.mem_cons_of_mem _ hq))⟩
  exact key vals [] h
theorem item_v {t : Nat} {x : Value} {l : List Item} {bs : List Nat} (hc : cl[c]? = some (clW x)) (h : ItemsAre (mkC csz numc okT nt cl w0) a w (.val t (op c) :: l) bs) : a.tmps[t]? = some x ∧ ItemsAre (mkC csz numc okT nt cl w0) a w l bs := by
  obtain ⟨⟨v, h1, h2⟩, h3⟩ := h
  rw [(op_isW hc).1 h2] at h1
  exact ⟨h1, h3⟩
theorem vals_nil {P : Nat × Nat × Value → Prop} : ∀ t ∈ ([] : List (Nat × Nat × Value)), P t := fun t h => by simp at h
theorem vals_cons {P : Nat × Nat × Value → Prop} {a : Nat × Nat × Value} {l : List (Nat × Nat × Value)} (h : P a) (k : ∀ t ∈ l, P t) : ∀ t ∈ a :: l, P t := fun t ht => by
  rcases List.mem_cons.1 ht with rfl | ht
  · exact h
  · exact k t ht
end
end Sym
open Go Go.RowKit Go.Proofs Lim
namespace Sym
theorem und_nat : Tryz.prog.underlying 31 = some (.slice (Tryz.prog.elem 31)) := by kernel_rfl
theorem elem_nat : Tryz.prog.elem 31 = 3 := by kernel_rfl
theorem clVi_ok {okT : List Nat} {B : Nat} (n : Int) : (clV (ii n)).Ok okT B := clV_ok rfl
theorem noT {x : Nat} : ∀ t ∈ ([] : List Nat), t ≠ x := fun t h => by simp at h
abbrev cl_digit (ds : List Nat) (i : Nat) : List Cl := [clD ds, clV (ii (i : Int)), clP (ds.getD i 0), clV (ii ((ds.getD i 0 : Nat) : Int)), clV (ii (ds.length : Int))]
def t_digit1 : List Ent := [⟨.blt .len [31] 3, [op 0], .val (op 4)⟩, ⟨.bin .lss 3, [op 1, op 4], .val (vp (.bool true))⟩, ⟨.ix 31, [op 0, op 1], .val (op 2)⟩, ⟨.ld 3, [op 2], .val (op 3)⟩]
def t_digit2 : List Ent := [⟨.blt .len [31] 3, [op 0], .val (op 4)⟩, ⟨.bin .lss 3, [op 1, op 4], .val (vp (.bool false))⟩]
theorem digit_ok (v : Value) (ds : List Nat) (i : Nat) (w : World) (h : Dg w v ds) : Calls Tryz.prog 127 #[v, ii (i : Int)] w (fun e w' => e = .returned (ii ((ds.getD i 0 : Nat) : Int)) ∧ Below w.heap.size w w') := by
  have hC : (mkC [1, 1, 1, 1, 1] [false, true, true, true, true] [] 13 (cl_digit ds i) w).Ok :=
    mkC_ok (oks_cons (clD_ok noT ds) (oks_cons (clVi_ok _) (oks_cons (clP_ok noT _) (oks_cons (clVi_ok _) (oks_cons (clVi_ok _) oks_nil))))) rfl rfl
  have hv : PatsAre (mkC [1, 1, 1, 1, 1] [false, true, true, true, true] [] 13 (cl_digit ds i) w) w [op 0, op 1] [v, ii (i : Int)] := ⟨_, _, rfl, (op_isD rfl).2 h, _, _, rfl, (op_is rfl).2 rfl, rfl⟩
  by_cases hi : i < ds.length
  · have hT : ∀ t ∈ t_digit1, t.Valid (mkC [1, 1, 1, 1, 1] [false, true, true, true, true] [] 13 (cl_digit ds i) w) :=
      forall_cons (e_len und_nat (pd rfl) (rv rfl)) (forall_cons (e_lss (pv rfl) (pv rfl) (decide_eq_true (by omega))) (forall_cons (e_ix und_nat elem_nat (pd rfl) (pv rfl) hi rfl) (forall_cons (e_ld rfl (rv rfl)) forall_nil)))
    refine (run_mk hC hT 127 Tryz.f127 [op 0, op 1] (.val (op 3)) 30 Tryz.func127 rfl rfl rfl (by kernel_rfl) _ hv).mono ?_
    rintro e w' ⟨x, rfl, hx, hb⟩
    exact ⟨by rw [(op_is rfl).1 hx], hb⟩
  · have hT : ∀ t ∈ t_digit2, t.Valid (mkC [1, 1, 1, 1, 1] [false, true, true, true, true] [] 13 (cl_digit ds i) w) :=
      forall_cons (e_len und_nat (pd rfl) (rv rfl)) (forall_cons (e_lss (pv rfl) (pv rfl) (decide_eq_false (by omega))) forall_nil)
    refine (run_mk hC hT 127 Tryz.f127 [op 0, op 1] (.val (vp (ii 0))) 30 Tryz.func127 rfl rfl rfl (by kernel_rfl) _ hv).mono ?_
    rintro e w' ⟨x, rfl, hx, hb⟩
    refine ⟨?_, hb⟩
    rw [val_of hx, List.getD_eq_getElem?_getD, List.getElem?_eq_none (by omega)]
    rfl
section
variable {csz : List Nat} {numc : List Bool} {okT : List Nat} {nt : Nat} {cl : List Cl} {w0 : World} {p1 p2 : Pat} {res : RPat} {ds : List Nat} {i : Nat}
theorem e_digit (h1 : PD csz numc okT nt cl w0 p1 ds) (h2 : PV csz numc okT nt cl w0 p2 (ii (i : Int))) (h3 : RV csz numc okT nt cl w0 res (ii ((ds.getD i 0 : Nat) : Int))) : V csz numc okT nt cl w0 (.call 127) [p1, p2] res := by
  refine ⟨enters_of Tryz.func127 (by kernel_rfl) rfl, fun w vs hb hvs => ?_⟩
  obtain ⟨v1, _, rfl, h4, v2, _, rfl, h5, rfl⟩ := hvs
  obtain rfl := h2 _ _ h5
  refine (digit_ok v1 ds i w (h1 _ _ hb h4)).mono ?_
  rintro e w' ⟨rfl, hb⟩
  exact ⟨_, rfl, h3 w', hb⟩
end
def strip (ds : List Nat) : List Nat := (ds.reverse.dropWhile (fun d => d == 0)).reverse
theorem strip_zero (l : List Nat) : strip (l ++ [0]) = strip l := by simp [strip]
theorem strip_pos (l : List Nat) {d : Nat} (h : d ≠ 0) : strip (l ++ [d]) = l ++ [d] := by simp [strip, h]
theorem strip_nil : strip [] = [] := rfl
theorem take_last {ds : List Nat} {n : Nat} (hn : n < ds.length) : ds.take (n + 1) = ds.take n ++ [ds.getD n 0] := by
  rw [List.take_add_one, List.getD_eq_getElem?_getD, List.getElem?_eq_getElem hn]
  rfl
abbrev cl_trim (B : Nat) (ds : List Nat) (n : Nat) : List Cl := [clF B ds, clV (ii (n : Int)), clP (ds.getD (n - 1) 0), clV (ii ((n - 1 : Nat) : Int)), clV (ii ((ds.getD (n - 1) 0 : Nat) : Int)), clF B (ds.take n)]
noncomputable abbrev C_trim (B : Nat) (ds : List Nat) (n : Nat) (w : World) : Ctx := mkC [1, 1, 1, 1, 1, 1] [false, true, true, true, true, false] [] 21 (cl_trim B ds n) w
theorem trim_C (B : Nat) (ds : List Nat) (n : Nat) (w : World) : (C_trim B ds n w).Ok :=
  mkC_ok (oks_cons (clF_ok noT B ds) (oks_cons (clVi_ok _) (oks_cons (clP_ok noT _) (oks_cons (clVi_ok _) (oks_cons (clVi_ok _) (oks_cons (clF_ok noT B _) oks_nil)))))) rfl rfl
def t_trim0 : List Ent := [⟨.blt .len [31] 3, [op 0], .val (op 1)⟩]
def t_trim1 : List Ent := [⟨.bin .gtr 3, [op 1, vp (ii 0)], .val (vp (.bool true))⟩, ⟨.bin .sub 3, [op 1, vp (ii 1)], .val (op 3)⟩, ⟨.ix 31, [op 0, op 3], .val (op 2)⟩, ⟨.ld 3, [op 2], .val (op 4)⟩, ⟨.bin .eql 3, [op 4, vp (ii 0)], .val (vp (.bool true))⟩]
def t_trim2 : List Ent := [⟨.bin .gtr 3, [op 1, vp (ii 0)], .val (vp (.bool true))⟩, ⟨.bin .sub 3, [op 1, vp (ii 1)], .val (op 3)⟩, ⟨.ix 31, [op 0, op 3], .val (op 2)⟩, ⟨.ld 3, [op 2], .val (op 4)⟩, ⟨.bin .eql 3, [op 4, vp (ii 0)], .val (vp (.bool false))⟩]
def t_trim3 : List Ent := [⟨.bin .gtr 3, [op 1, vp (ii 0)], .val (vp (.bool false))⟩]
def t_trim4 : List Ent := [⟨.sl 31 false true false, [op 0, op 1], .val (op 5)⟩]
noncomputable def b_trim : Code := bodyOf Tryz.f123
theorem trim_ok (v : Value) (ds : List Nat) (w : World) (h : Dg w v ds) {B : Nat} (hB : ∀ k, v.ownBlock = some k → B ≤ k) : Calls Tryz.prog 123 #[v] w (fun e w' => ∃ v', e = .returned v' ∧ Dg w' v' (strip ds) ∧ (∀ k, v'.ownBlock = some k → B ≤ k) ∧ Below w.heap.size w w') := by
  have hlen := h.len
  refine calls_at (C := C_trim B ds ds.length w) (f := 123) (args := [op 0]) Tryz.func123 (c := .seq (seqL b_trim) (.seq (seqL (seqR b_trim)) (.seq (.block 0 (.loop (inner (inner (seqL (seqR (seqR b_trim))))))) (seqR (seqR (seqR b_trim)))))) rfl rfl (Nat.le_of_ble_eq_true rfl) (vs := [v]) ⟨_, _, rfl, (op_isF rfl).2 ⟨h, hB⟩, rfl⟩ (fun a hA => ?_)
  have hT0 : ∀ t ∈ t_trim0, t.Valid (C_trim B ds ds.length w) := forall_cons (e_len und_nat (pf rfl).pd (rv rfl)) forall_nil
  refine wp_seq (seg_is (trim_C _ _ _ _) hT0 (x := .normal) (n := 30) (post := [.val 0 (op 0)]) (by kernel_rfl) hA (fun a' w' hA => ?_))
  refine wp_seq (seg_is (trim_C _ _ _ _) hT0 (x := .normal) (n := 30) (post := [.val 0 (op 0), .val 3 (op 1)]) (by kernel_rfl) hA (fun a' w' hA => ?_))
  refine wp_seq (while_is (Θ := Nat) (fun n a w' => n ≤ ds.length ∧ strip (ds.take n) = strip ds ∧ At (C_trim B ds n w) [.val 0 (op 0), .val 3 (op 1)] a w') id ?_ ds.length ⟨Nat.le_refl _, by simp, hA⟩)
  rintro n a w1 ⟨hn, hs, hA⟩
  have hend : strip (ds.take n) = ds.take n → ∀ a' w', At (C_trim B ds n w) [.val 0 (op 0), .val 3 (op 1)] a' w' → (seqR (seqR (seqR b_trim))).wp Tryz.prog (bodyPost Tryz.prog Tryz.f123 (fun e w' => ∃ v', e = .returned v' ∧ Dg w' v' (strip ds) ∧ (∀ k, v'.ownBlock = some k → B ≤ k) ∧ Below w.heap.size w w')) a' w' := by
    intro he a' w' hA
    have hT : ∀ t ∈ t_trim4, t.Valid (C_trim B ds n w) := forall_cons (e_takeF und_nat elem_nat (pf rfl) (pv rfl) hn (rf rfl)) forall_nil
    refine seg_is (trim_C _ _ _ _) hT (x := .ret) (n := 30) (post := [.val 2 (op 5)]) (by kernel_rfl) hA (fun a' w' hA => at_ret rfl hA (fun v' hv => ⟨_, rfl, ?_, ((op_isF (ds := ds.take n) rfl).1 hv).2, hA.below⟩))
    have := ((op_isF (ds := ds.take n) rfl).1 hv).1
    rw [← hs, he]
    exact this
  by_cases h0 : n = 0
  · have hT : ∀ t ∈ t_trim3, t.Valid (C_trim B ds n w) := forall_cons (e_gtr (pv rfl) pvl (decide_eq_false (by omega))) forall_nil
    exact seg_is (trim_C _ _ _ _) hT (x := .exit 0) (n := 30) (post := [.val 0 (op 0), .val 3 (op 1)]) (by kernel_rfl) hA (fun a' w' hA => hend (by subst h0; rfl) a' w' hA)
  · obtain ⟨m, rfl⟩ : ∃ m, n = m + 1 := ⟨n - 1, by omega⟩
    by_cases hd : ds.getD m 0 = 0
    · have hT : ∀ t ∈ t_trim1, t.Valid (C_trim B ds (m + 1) w) := forall_cons (e_gtr (pv rfl) pvl (decide_eq_true (by omega))) (forall_cons (e_sub (u := (m : Int)) (by omega) (pv rfl) pvl (rv rfl) (by omega)) (forall_cons (e_ix und_nat elem_nat (pf rfl).pd (pv rfl) hn rfl) (forall_cons (e_ld rfl (rv rfl)) (forall_cons (e_eql (pv rfl) pvl (decide_eq_true (by simpa using hd))) forall_nil))))
      refine seg_is (trim_C _ _ _ _) hT (x := .normal) (n := 30) (post := [.val 0 (op 0), .val 3 (op 3)]) (by kernel_rfl) hA (fun a' w' hA => ⟨m, ⟨by omega, ?_, ?_⟩, by simp⟩)
      · rw [← hs, take_last hn, hd, strip_zero]
      · exact at_re hA [(0, 0), (1, 3)] (prs_cons rfl (prs_cons rfl prs_nil)) rfl rfl
    · have hT : ∀ t ∈ t_trim2, t.Valid (C_trim B ds (m + 1) w) := forall_cons (e_gtr (pv rfl) pvl (decide_eq_true (by omega))) (forall_cons (e_sub (u := (m : Int)) (by omega) (pv rfl) pvl (rv rfl) (by omega)) (forall_cons (e_ix und_nat elem_nat (pf rfl).pd (pv rfl) hn rfl) (forall_cons (e_ld rfl (rv rfl)) (forall_cons (e_eql (pv rfl) pvl (decide_eq_false (by simpa using hd))) forall_nil))))
      exact seg_is (trim_C _ _ _ _) hT (x := .exit 0) (n := 30) (post := [.val 0 (op 0), .val 3 (op 1)]) (by kernel_rfl) hA (fun a' w' hA => hend (by rw [take_last hn, strip_pos _ hd]) a' w' hA)
section
variable {csz : List Nat} {numc : List Bool} {okT : List Nat} {nt : Nat} {cl : List Cl} {w0 : World} {p1 p2 : Pat} {res : RPat} {ds : List Nat}
theorem e_trim (h1 : PD csz numc okT nt cl w0 p1 ds) (h3 : RD csz numc okT nt cl w0 res (strip ds)) : V csz numc okT nt cl w0 (.call 123) [p1] res := by
  refine ⟨enters_of Tryz.func123 (by kernel_rfl) rfl, fun w vs hb hvs => ?_⟩
  obtain ⟨v1, _, rfl, h4, rfl⟩ := hvs
  refine (trim_ok v1 ds w (h1 _ _ hb h4) (B := 0) (fun _ _ => Nat.zero_le _)).mono ?_
  rintro e w' ⟨v', rfl, hv, _, hb⟩
  exact ⟨_, rfl, h3 w' v' hv, hb⟩
theorem e_trimF {B : Nat} (h1 : PF csz numc okT nt cl w0 p1 B ds) (h3 : RF csz numc okT nt cl w0 res B (strip ds)) : V csz numc okT nt cl w0 (.call 123) [p1] res := by
  refine ⟨enters_of Tryz.func123 (by kernel_rfl) rfl, fun w vs hb hvs => ?_⟩
  obtain ⟨v1, _, rfl, h4, rfl⟩ := hvs
  obtain ⟨g1, g2⟩ := h1 _ _ hb h4
  refine (trim_ok v1 ds w g1 g2).mono ?_
  rintro e w' ⟨v', rfl, hv, hB, hb⟩
  exact ⟨_, rfl, h3 w' v' hv hB, hb⟩
end
def nat : List Nat → Nat
  | [] => 0
  | d :: ds => d + 10000 * nat ds
def Dig (ds : List Nat) : Prop := ∀ i, ds.getD i 0 < 10000
theorem nat_head (ds : List Nat) : nat ds = ds.getD 0 0 + 10000 * nat ds.tail := by cases ds <;> simp [nat]
theorem getD_tail (ds : List Nat) (j : Nat) : ds.tail.getD j 0 = ds.getD (j + 1) 0 := by cases ds <;> simp
theorem Dig.tail {ds : List Nat} (h : Dig ds) : Dig ds.tail := fun i => by rw [getD_tail]; exact h _
theorem nat_ext : ∀ {ds es : List Nat}, (∀ j, ds.getD j 0 = es.getD j 0) → nat ds = nat es
  | [], [], _ => rfl
  | [], e :: es, h => by
    have h0 := h 0
    have := nat_ext (ds := []) (es := es) (fun j => by simpa using h (j + 1))
    simp at h0
    simp only [nat] at this ⊢
    omega
  | d :: ds, es, h => by
    have h0 := h 0
    have := nat_ext (ds := ds) (es := es.tail) (fun j => by rw [getD_tail]; simpa using h (j + 1))
    rw [nat_head es]
    simp only [nat]
    simp at h0
    rw [this]
    simp [List.getD_eq_getElem?_getD, h0]
theorem nat_lt : ∀ {i : Nat} {ds es : List Nat}, Dig ds → ds.getD i 0 < es.getD i 0 → (∀ j, i < j → ds.getD j 0 = es.getD j 0) → nat ds < nat es
  | 0, ds, es, hd, hi, h => by
    have := nat_ext (ds := ds.tail) (es := es.tail) (fun j => by rw [getD_tail, getD_tail]; exact h _ (by omega))
    rw [nat_head ds, nat_head es, this]
    omega
  | i + 1, ds, es, hd, hi, h => by
    have := nat_lt (i := i) (ds := ds.tail) (es := es.tail) hd.tail (by rw [getD_tail, getD_tail]; exact hi) (fun j hj => by rw [getD_tail, getD_tail]; exact h _ (by omega))
    have h0 := hd 0
    rw [nat_head ds, nat_head es]
    omega
def idx : Nat → Int
  | 0 => -1
  | m + 1 => (m : Int)
abbrev cl_order (ds es : List Nat) (k : Nat) : List Cl := [clD ds, clD es, clV (ii (idx k)), clV (ii ((ds.getD (k - 1) 0 : Nat) : Int)), clV (ii ((es.getD (k - 1) 0 : Nat) : Int)), clV (ii (idx (k - 1))), clV (ii (ds.length : Int)), clV (ii (es.length : Int)), clV (ii (if (es.length : Int) > (ds.length : Int) then (es.length : Int) else (ds.length : Int)))]
noncomputable abbrev C_order (ds es : List Nat) (k : Nat) (w : World) : Ctx := mkC [1, 1, 1, 1, 1, 1, 1, 1, 1] [false, false, true, true, true, true, true, true, true] [] 30 (cl_order ds es k) w
theorem order_C (ds es : List Nat) (k : Nat) (w : World) : (C_order ds es k w).Ok :=
  mkC_ok (oks_cons (clD_ok noT ds) (oks_cons (clD_ok noT es) (oks_cons (clVi_ok _) (oks_cons (clVi_ok _) (oks_cons (clVi_ok _) (oks_cons (clVi_ok _) (oks_cons (clVi_ok _) (oks_cons (clVi_ok _) (oks_cons (clVi_ok _) oks_nil))))))))) rfl rfl
def t_order0 : List Ent := [⟨.blt .len [31] 3, [op 0], .val (op 6)⟩, ⟨.blt .len [31] 3, [op 1], .val (op 7)⟩, ⟨.blt .max [3, 3] 3, [op 6, op 7], .val (op 8)⟩, ⟨.bin .sub 3, [op 8, vp (ii 1)], .val (op 2)⟩]
def t_order1 (b c : Bool) : List Ent := [⟨.bin .geq 3, [op 2, vp (ii 0)], .val (vp (.bool true))⟩, ⟨.call 127, [op 0, op 2], .val (op 3)⟩, ⟨.call 127, [op 1, op 2], .val (op 4)⟩, ⟨.bin .lss 3, [op 3, op 4], .val (vp (.bool b))⟩, ⟨.bin .gtr 3, [op 3, op 4], .val (vp (.bool c))⟩, ⟨.bin .sub 3, [op 2, vp (ii 1)], .val (op 5)⟩]
def t_order2 : List Ent := [⟨.bin .geq 3, [op 2, vp (ii 0)], .val (vp (.bool false))⟩]
noncomputable def b_order : Code := bodyOf Tryz.f89
def cmpN (m n : Nat) : Int := if m < n then -1 else if n < m then 1 else 0
theorem order_ok (v u : Value) (ds es : List Nat) (w : World) (h : Dg w v ds) (h' : Dg w u es) (hds : Dig ds) (hes : Dig es) : Calls Tryz.prog 89 #[v, u] w (fun e w' => e = .returned (ii (cmpN (nat ds) (nat es))) ∧ Below w.heap.size w w') := by
  have hl := h.len
  have hl' := h'.len
  have h0 : ∀ (ds : List Nat) j, ds.length ≤ j → ds.getD j 0 = 0 := fun ds j hj => by rw [List.getD_eq_getElem?_getD, List.getElem?_eq_none hj]; rfl
  obtain ⟨k0, hk0, hk1, hk2⟩ : ∃ k0, idx k0 = (if (es.length : Int) > (ds.length : Int) then (es.length : Int) else (ds.length : Int)) - 1 ∧ ds.length ≤ k0 ∧ es.length ≤ k0 := by
    refine ⟨max ds.length es.length, ?_, by omega, by omega⟩
    split
    · rw [show max ds.length es.length = es.length by omega]
      cases hk : es.length <;> simp [idx] <;> omega
    · rw [show max ds.length es.length = ds.length by omega]
      cases hk : ds.length <;> simp [idx] <;> omega
  have hk3 : idx k0 ≤ 9223372036854775807 ∧ -1 ≤ idx k0 := by rw [hk0]; split <;> omega
  refine calls_at (C := C_order ds es k0 w) (f := 89) (args := [op 0, op 1]) Tryz.func89 (c := .seq (seqL b_order) (.seq (.seq (seqL (seqL (seqR b_order))) (.block 0 (.loop (inner (inner (seqR (seqL (seqR b_order)))))))) (seqR (seqR b_order)))) rfl rfl (Nat.le_of_ble_eq_true rfl) (vs := [v, u]) ⟨_, _, rfl, (op_isD rfl).2 h, _, _, rfl, (op_isD rfl).2 h', rfl⟩ (fun a hA => ?_)
  have hT0 : ∀ t ∈ t_order0, t.Valid (C_order ds es k0 w) := forall_cons (e_len und_nat (pd rfl) (rv rfl)) (forall_cons (e_len und_nat (pd rfl) (rv rfl)) (forall_cons (e_max (pv rfl) (pv rfl) (rv rfl)) (forall_cons (e_sub hk0.symm (pv rfl) pvl (rv rfl) (by omega)) forall_nil)))
  refine wp_seq (seg_is (order_C _ _ _ _) hT0 (x := .normal) (n := 30) (post := [.val 0 (op 0), .val 1 (op 1)]) (by kernel_rfl) hA (fun a' w' hA => ?_))
  refine wp_seq (wp_seq (seg_is (order_C _ _ _ _) hT0 (x := .normal) (n := 30) (post := [.val 0 (op 0), .val 1 (op 1), .val 5 (op 2)]) (by kernel_rfl) hA (fun a' w' hA => ?_)))
  have hR : ∀ {f g : Act → World → Prop} a' w', bodyPost Tryz.prog Tryz.f89 (fun e w' => e = .returned (ii (cmpN (nat ds) (nat es))) ∧ Below w.heap.size w w') .ret a' w' → Exit.then f (Exit.inBlock 0 (Exit.then g (bodyPost Tryz.prog Tryz.f89 (fun e w' => e = .returned (ii (cmpN (nat ds) (nat es))) ∧ Below w.heap.size w w')))) Xt.ret.to a' w' := fun _ _ h => h
  refine while_is (Θ := Nat) (fun k a w' => k ≤ k0 ∧ (∀ j, k ≤ j → ds.getD j 0 = es.getD j 0) ∧ At (C_order ds es k w) [.val 0 (op 0), .val 1 (op 1), .val 5 (op 2)] a w') id ?_ k0 ⟨Nat.le_refl _, fun j hj => by rw [h0 _ _ (by omega), h0 _ _ (by omega)], hA⟩
  rintro k a w1 ⟨hk, hs, hA⟩
  cases k with
  | zero =>
    have hT : ∀ t ∈ t_order2, t.Valid (C_order ds es 0 w) := forall_cons (e_geq (pv rfl) pvl (decide_eq_false (by decide))) forall_nil
    refine seg_is (order_C _ _ _ _) hT (x := .exit 0) (n := 30) (post := [.val 0 (op 0)]) (by kernel_rfl) hA (fun a' w' hA => ?_)
    refine seg_is (order_C _ _ _ _) hT (x := .ret) (n := 30) (post := [.val 4 (vp (ii 0))]) (by kernel_rfl) hA (fun a' w' hA => at_ret rfl hA (fun v' hv => ⟨?_, hA.below⟩))
    rw [vp_is.1 hv, nat_ext (fun j => hs j (Nat.zero_le _))]
    simp [cmpN]
  | succ m =>
    have hm : (m : Int) ≤ 9223372036854775807 := by
      have : idx (m + 1) ≤ idx k0 := by cases k0 with | zero => omega | succ k0 => show (m : Int) ≤ (k0 : Int); omega
      have : (m : Int) ≤ idx k0 := this
      omega
    have hT : ∀ b c, decide (((ds.getD m 0 : Nat) : Int) < ((es.getD m 0 : Nat) : Int)) = b → decide (((ds.getD m 0 : Nat) : Int) > ((es.getD m 0 : Nat) : Int)) = c → ∀ t ∈ t_order1 b c, t.Valid (C_order ds es (m + 1) w) := fun b c hb hc =>
      forall_cons (e_geq (x := (m : Int)) (pv rfl) pvl (decide_eq_true (by omega))) (forall_cons (e_digit (i := m) (pd rfl) (pv rfl) (rv rfl)) (forall_cons (e_digit (i := m) (pd rfl) (pv rfl) (rv rfl)) (forall_cons (e_lss (pv rfl) (pv rfl) hb) (forall_cons (e_gtr (pv rfl) (pv rfl) hc) (forall_cons (e_sub (x := (m : Int)) (u := idx m) (by cases m with | zero => rfl | succ j => show ((j + 1 : Nat) : Int) - 1 = (j : Int); omega) (pv rfl) pvl (rv rfl) (by cases m with | zero => decide | succ j => show _ ≤ (j : Int) ∧ (j : Int) ≤ _; omega)) forall_nil)))))
    rcases Nat.lt_trichotomy (ds.getD m 0) (es.getD m 0) with hd | hd | hd
    · refine seg_is (order_C _ _ _ _) (hT true false (decide_eq_true (by omega)) (decide_eq_false (by omega))) (x := .ret) (n := 30) (post := [.val 4 (vp (ii (-1)))]) (by kernel_rfl) hA (fun a' w' hA => hR a' w' (at_ret rfl hA (fun v' hv => ⟨?_, hA.below⟩)))
      rw [vp_is.1 hv, cmpN, if_pos (nat_lt hds hd (fun j hj => hs j hj))]
    · refine seg_is (order_C _ _ _ _) (hT false false (decide_eq_false (by omega)) (decide_eq_false (by omega))) (x := .normal) (n := 30) (post := [.val 0 (op 0), .val 1 (op 1), .val 5 (op 5)]) (by kernel_rfl) hA (fun a' w' hA => ⟨m, ⟨by omega, fun j hj => ?_, ?_⟩, by simp⟩)
      · rcases Nat.lt_or_ge m j with h | h
        · exact hs j h
        · rw [show j = m by omega]; exact hd
      · exact at_re hA [(0, 0), (1, 1), (2, 5)] (prs_cons rfl (prs_cons rfl (prs_cons rfl prs_nil))) rfl rfl
    · refine seg_is (order_C _ _ _ _) (hT false true (decide_eq_false (by omega)) (decide_eq_true (by omega))) (x := .ret) (n := 30) (post := [.val 4 (vp (ii 1))]) (by kernel_rfl) hA (fun a' w' hA => hR a' w' (at_ret rfl hA (fun v' hv => ⟨?_, hA.below⟩)))
      have := nat_lt hes hd (fun j hj => (hs j hj).symm)
      rw [vp_is.1 hv, cmpN, if_neg (by omega), if_pos this]
end Sym
open Go Go.RowKit Go.Proofs Lim
namespace Sym
def digs (n : Nat) : List Nat := if n = 0 then [] else n % 10000 :: digs (n / 10000)
theorem digs_zero : digs 0 = [] := by unfold digs; simp
theorem digs_pos {n : Nat} (h : n ≠ 0) : digs n = n % 10000 :: digs (n / 10000) := by rw [digs, if_neg h]
theorem digs_len : ∀ (k n : Nat), n < 10000 ^ k → (digs n).length ≤ k
  | 0, n, h => by
    have : n = 0 := by simpa using h
    subst this; simp [digs_zero]
  | k + 1, n, h => by
    by_cases h0 : n = 0
    · subst h0; simp [digs_zero]
    · rw [digs_pos h0]
      have := digs_len k (n / 10000) (by rw [Nat.div_lt_iff_lt_mul (by decide)]; rw [Nat.pow_succ] at h; exact h)
      simp only [List.length_cons]
      omega
abbrev Own (B : Nat) (w : World) (z : Value) (l : List Nat) : Prop := w.ownsRow B 3 1 z l.length (l.map (fun d : Nat => ii (d : Int)))
theorem Own.below {B : Nat} {w w' : World} {z : Value} {l : List Nat} (h : Own B w z l) (hb : Below w.heap.size w w') : Own B w' z l :=
  h.kept (row := none) ⟨hb.os, hb.tape, hb.output, hb.size, fun k hk _ => hb.block k hk⟩ (by cases z.ownBlock <;> simp)
theorem Own.dg {B : Nat} {w : World} {z : Value} {l : List Nat} (h : Own B w z l) : Dg w z l := by
  obtain ⟨h1, h2⟩ := h
  rcases h2 with ⟨rfl, h3⟩ | ⟨g, cap, cur, rfl, hb, hg, hn, hc, hs, ht⟩
  · have : l = [] := List.eq_nil_of_length_eq_zero h3
    subst this
    exact Dg.nil w
  · refine ⟨_, cap, rfl, hn, by simp only [maxLen] at hc; omega, fun _ => ⟨g, 0, rfl, ⟨cur, _, hg⟩, fun i hi => ?_⟩⟩
    have h5 : (cur.toList.take (l.length * 1))[i]? = (l.map (fun d : Nat => ii (d : Int)))[i]? := by rw [ht]
    rw [List.getElem?_take, if_pos (by omega), List.getElem?_map, List.getElem?_eq_getElem hi] at h5
    simp only [World.cell?, hg, Nat.zero_add]
    rw [← Array.getElem?_toList, h5]
    simp [List.getD, hi]
theorem Own.one {B : Nat} {w : World} {z : Value} {l : List Nat} (h : Own B w z l) : z.oneCell' = true := by
  rcases h.2 with ⟨rfl, _⟩ | ⟨g, cap, cur, rfl, _⟩ <;> rfl
theorem Own.fresh {B k : Nat} {w : World} (h : w.heap[k]? = some (.cells #[] 3 (0, 0))) (hB : B ≤ k) : Own B w (.slice (some ⟨k, 0, none⟩) 0 0) [] :=
  ⟨rfl, .inr ⟨k, 0, #[], rfl, hB, h, Nat.le_refl _, by decide, rfl, rfl⟩⟩
theorem wp_add {ops : Array Oper} {rest : List Oper} {o : Oper} {a : Act} {w : World} {Q : Exit → Act → World → Prop} {B s x d k : Nat} {z : Value} {l : List Nat} (hgd : o.guard = none) (ho : o.op = .call { callee := .builtin .append, args := #[.tmp s, .tmp x], argTypes := #[31, 31] })
    (hs : a.tmps[s]? = some z) (hx : a.tmps[x]? = some (.slice (some ⟨k, 0, none⟩) 1 1)) (hk : w.heap[k]? = some (.cells #[ii (d : Int)] 3 (0, 0))) (hown : Own B w z l) (hB : B ≤ w.heap.size) (hl : l.length < 1000000000)
    (h : ∀ z' w', Own B w' z' (l ++ [d]) → w.grownBy w' z.ownBlock → wpList Tryz.prog ops Q rest (a.put o.dst z') w') : wpList Tryz.prog ops Q (o :: rest) a w := by
  have hs' : a.eval (.tmp s) = z := by simp [Act.eval, Array.getD_eq_getD_getElem?, hs]
  have hx' : a.eval (.tmp x) = .slice (some ⟨k, 0, none⟩) 1 1 := by simp [Act.eval, Array.getD_eq_getD_getElem?, hx]
  obtain ⟨i, hi, hz, q1, q2⟩ : ∃ i, Tryz.prog.info? 3 = some i ∧ i.zero = some (ii 0) ∧ i.size = 1 ∧ i.bytes = 8 := by
    have h : (Tryz.prog.info? 3).map (fun i => (i.zero, i.size, i.bytes)) = some (some (ii 0), 1, 8) := by kernel_rfl
    obtain ⟨i, h1, h2⟩ := Option.map_eq_some_iff.1 h
    simp only [Prod.mk.injEq] at h2
    exact ⟨i, h1, h2.1, h2.2.1, h2.2.2⟩
  refine wpList_append_own w hgd (.tmp s) (.tmp x) 31 ho B 3 i (ii 0) 1 8 (by kernel_rfl) hi hz q1 q2 rfl (by decide) z l.length _ hs' hown ⟨k, 0, none⟩ 1 1 [ii (d : Int)] hx' rfl ?_ ?_ (by simp only [maxLen]; omega) (by omega) hB ?_
  · intro j u hj
    cases j with
    | zero =>
      have hj : u = ii (d : Int) := by simpa using hj.symm
      subst hj
      show w.cell? ⟨k, 0, none⟩ = _
      simp [World.cell?, hk]
    | succ j => simp at hj
  · intro u hu
    have : u = ii (d : Int) := by simpa using hu
    subst this; rfl
  · intro z' w' h1 h2 _
    refine h z' w' ?_ h2
    have : Own B w' z' (l ++ [d]) = w'.ownsRow B 3 1 z' (l.length + 1) ((l.map (fun d : Nat => ii (d : Int))) ++ [ii (d : Int)]) := by simp [Own]
    rw [this]
    exact h1
theorem put_self {a : Act} {d : Nat} {v : Value} (h : d < a.tmps.size) : (a.put (some d) v).tmps[d]? = some v := by simp [Act.put, h]
theorem put_ne {a : Act} {d t : Nat} {v : Value} (h : t ≠ d) : (a.put (some d) v).tmps[t]? = a.tmps[t]? := by simp [Act.put, Ne.symm h]
theorem wp_empty {ops : Array Oper} {rest : List Oper} {o : Oper} {a : Act} {w : World} {Q : Exit → Act → World → Prop} (hgd : o.guard = none) (ho : o.op = .buildSlice 31 0 #[])
    (h : wpList Tryz.prog ops Q rest (a.put o.dst (.slice (some ⟨w.heap.size, 0, none⟩) 0 0)) (w.alloc (.cells #[] 3))) : wpList Tryz.prog ops Q (o :: rest) a w := by
  refine wpList_plain hgd fun K hK => ?_
  have hr : (Instr.buildSlice 31 0 #[]).run Tryz.prog w = .ok (.slice (some ⟨w.heap.size, 0, none⟩) 0 0) (w.alloc (.cells #[] 3)) := by
    have hu : Tryz.prog.underlying 31 = some (.slice 3) := by kernel_rfl
    simp [Instr.buildSlice, run_underlying hu, size_int, Instr.fill, newRow]
    rw [show Array.map (fun _ : Nat => (default : Value)) (Array.range 0) = #[] from Array.eq_empty_of_size_eq_zero (by rw [Array.size_map, Array.size_range])]
  unfold Oper.wp execOp
  simp only [ho, Array.map_empty, List.map_toArray, List.map_nil, Sem.run_bind, hr, Result.andThen_ok]
  exact hK _ _ h
abbrev ui (n : Nat) : Value := .int .u64 (n : Int)
theorem clWu_ok {okT : List Nat} {B : Nat} (n : Nat) : (clW (ui n)).Ok okT B := clW_ok rfl
theorem clWi_ok {okT : List Nat} {B : Nat} (n : Int) : (clW (ii n)).Ok okT B := clW_ok rfl
abbrev cl_small (n : Nat) (z : Value) : List Cl := [clW (ui n), clW z, clW (ui (n % 10000)), clW (ii ((n % 10000 : Nat) : Int)), clW (ui (n / 10000))]
noncomputable abbrev C_small (n : Nat) (z : Value) (w : World) : Ctx := mkC [1, 1, 1, 1, 1] [false, false, false, false, false] [] 16 (cl_small n z) w
theorem small_C (n : Nat) {z : Value} (hz : z.oneCell' = true) (w : World) : (C_small n z w).Ok :=
  mkC_ok (oks_cons (clWu_ok _) (oks_cons (clW_ok hz) (oks_cons (clWu_ok _) (oks_cons (clWi_ok _) (oks_cons (clWu_ok _) oks_nil))))) rfl rfl
def t_small1 (b : Bool) : List Ent := [⟨.bin .gtr 23, [op 0, vp (ui 0)], .val (vp (.bool b))⟩]
def t_small2 : List Ent := [⟨.bin .rem 23, [op 0, vp (ui 10000)], .val (op 2)⟩, ⟨.cv 23 3, [op 2], .val (op 3)⟩, ⟨.bin .quo 23, [op 0, vp (ui 10000)], .val (op 4)⟩]
noncomputable def b_small : Code := bodyOf Tryz.f87
noncomputable def l_small : Code := inner (inner (seqL (seqR (seqR b_small))))
noncomputable def r_small : Code := seqL (inner (seqR l_small))
theorem small_T (n : Nat) (hn : n < 18446744073709551616) (z : Value) (w : World) : ∀ t ∈ t_small2, t.Valid (C_small n z w) :=
  forall_cons (e_rem (k := .u64) (m := n) (n := 10000) (pvW rfl) pvl (rvW rfl) (by decide)) (forall_cons (e_cv (by kernel_rfl) (by kernel_rfl) (by kernel_rfl) (pvW rfl) (rvW rfl) (by rw [IntKind.wrap_i64]; omega)) (forall_cons (e_quo (k := .u64) (m := n) (n := 10000) (pvW rfl) pvl (rvW rfl) (by decide) (by rw [IntKind.wrap_u64]; omega)) forall_nil))
theorem small_ok (n0 : Nat) (hn0 : n0 < 18446744073709551616) (w : World) : Calls Tryz.prog 87 #[ui n0] w (fun e w' => ∃ v, e = .returned v ∧ Dg w' v (digs n0) ∧ Below w.heap.size w w') := by
  have hlen : (digs n0).length ≤ 5 := digs_len 5 n0 (by omega)
  refine calls_at (C := C_small n0 (ii 0) w) (f := 87) (args := [op 0]) Tryz.func87 (c := .seq (seqL b_small) (.seq (seqL (seqR b_small)) (.seq (.block 0 (.loop l_small)) (seqR (seqR (seqR b_small)))))) rfl rfl (Nat.le_of_ble_eq_true rfl) (vs := [ui n0]) ⟨_, _, rfl, (op_isW rfl).2 rfl, rfl⟩ (fun a hA => ?_)
  refine wp_seq (seg_is (small_C n0 rfl w) (T := []) forall_nil (x := .normal) (n := 30) (post := [.val 0 (op 0)]) (by kernel_rfl) hA (fun a' w' hA => ?_))
  obtain ⟨s0, _⟩ := item_v rfl hA.items
  refine wp_seq ?_
  show (Code.region 1 (opsOf (seqL (seqR b_small))).toArray false).wp Tryz.prog _ _ _
  refine wp_region_lit (wp_empty rfl rfl ?_)
  have hz : Own w.heap.size (w'.alloc (.cells #[] 3)) (.slice (some ⟨w'.heap.size, 0, none⟩) 0 0) [] := Own.fresh (heap_alloc_new w' _) hA.below.size
  have hb1 : Below w.heap.size w (w'.alloc (.cells #[] 3)) := hA.below.alloc hA.below.size _
  have hsz : 4 < a'.tmps.size := by rw [hA.size]; show 4 < 16; decide
  have hA : At (C_small n0 (.slice (some ⟨w'.heap.size, 0, none⟩) 0 0) (w'.alloc (.cells #[] 3))) [.val 0 (op 0), .val 4 (op 1)] (a'.put (some 4) (.slice (some ⟨w'.heap.size, 0, none⟩) 0 0)) (w'.alloc (.cells #[] 3)) :=
    at_of [(0, 0, ui n0), (4, 1, .slice (some ⟨w'.heap.size, 0, none⟩) 0 0)] ((put_defers _ _ _).trans hA.defers) ((put_size _ _ _).trans hA.size) (vals_cons ⟨(put_ne (show (0 : Nat) ≠ 4 by decide)).trans s0, rfl⟩ (vals_cons ⟨put_self hsz, rfl⟩ vals_nil))
  refine ops_end (small_C n0 rfl _) (T := []) forall_nil (post := [.val 0 (op 0), .val 3 (op 1)]) (by kernel_rfl) hA (fun a' w2 hA => ?_)
  obtain ⟨s0, hI⟩ := item_v rfl hA.items
  obtain ⟨s3, _⟩ := item_v rfl hI
  refine wp_seq (while_is (Θ := Nat) (fun n a w1 => ∃ z l, digs n0 = l ++ digs n ∧ n ≤ n0 ∧ a.defers = [] ∧ a.tmps.size = 16 ∧ a.tmps[0]? = some (ui n) ∧ a.tmps[3]? = some z ∧ Own w.heap.size w1 z l ∧ Below w.heap.size w w1) id ?_ n0 ⟨_, [], rfl, Nat.le_refl _, hA.defers, hA.size, s0, s3, hz.below hA.below, hb1.trans (hA.below.mono hb1.size)⟩)
  rintro n a w1 ⟨z, l, hl, hn, hd, hs, s0, s3, hown, hb⟩
  have hA : At (C_small n z w1) [.val 0 (op 0), .val 3 (op 1)] a w1 := at_of [(0, 0, ui n), (3, 1, z)] hd hs (vals_cons ⟨s0, rfl⟩ (vals_cons ⟨s3, rfl⟩ vals_nil))
  have hC := small_C n hown.one w1
  by_cases h0 : n = 0
  · subst h0
    have hT : ∀ t ∈ t_small1 false, t.Valid (C_small 0 z w1) := forall_cons (e_gtr (pvW rfl) pvl (decide_eq_false (by omega))) forall_nil
    refine wp_seq (seg_is hC hT (x := .exit 0) (n := 30) (post := [.val 3 (op 1)]) (by kernel_rfl) hA (fun a' w' hA => ?_))
    refine seg_is hC (T := []) forall_nil (x := .ret) (n := 30) (post := [.val 2 (op 1)]) (by kernel_rfl) hA (fun a' w' hA => at_ret rfl hA (fun v hv => ⟨v, rfl, ?_, ?_⟩))
    · rw [(op_isW rfl).1 hv, hl, digs_zero, List.append_nil]
      exact (hown.below hA.below).dg
    · exact hb.trans (hA.below.mono hb.size)
  · have hT : ∀ t ∈ t_small1 true, t.Valid (C_small n z w1) := forall_cons (e_gtr (pvW rfl) pvl (decide_eq_true (by omega))) forall_nil
    refine wp_seq (seg_is hC hT (x := .normal) (n := 30) (post := [.val 0 (op 0), .val 3 (op 1)]) (by kernel_rfl) hA (fun a' w' hA => ?_))
    refine wp_block (wp_seq ?_)
    obtain ⟨s0, hI⟩ := item_v rfl hA.items
    obtain ⟨s3, _⟩ := item_v rfl hI
    have hd := hA.defers
    have hs := hA.size
    have hown := hown.below hA.below
    have hb := hb.trans (hA.below.mono hb.size)
    have hA : At (C_small n z w') [.val 0 (op 0), .val 3 (op 1)] a' w' := at_of [(0, 0, ui n), (3, 1, z)] hd hs (vals_cons ⟨s0, rfl⟩ (vals_cons ⟨s3, rfl⟩ vals_nil))
    have hT := small_T n (by omega) z w'
    show (Code.region 3 (opsOf r_small).toArray false).wp Tryz.prog _ _ _
    refine wp_region_lit ?_
    show wpList _ _ _ ((opsOf r_small).take 5 ++ (opsOf r_small).drop 5) _ _
    refine ops_is (small_C n hown.one w') hT (post := [.val 0 (op 0), .val 7 (op 1), .own 11 3 1 [.cls 3 1]]) (by kernel_rfl) hA (fun a3 w3 hA => ?_)
    obtain ⟨s0, hI⟩ := item_v rfl hA.items
    obtain ⟨s7, hI⟩ := item_v rfl hI
    obtain ⟨⟨k, vs, s11, hk, hkc, hvs⟩, _⟩ := hI
    have hvs : vs = [ii ((n % 10000 : Nat) : Int)] := by
      obtain ⟨xs, ys, rfl, ⟨f, hE, rfl⟩, hy⟩ := hvs
      rw [show ys = [] from hy]
      have hE : f 0 = ii ((n % 10000 : Nat) : Int) := hE
      simp [List.range_succ, hE]
    subst hvs
    have hB : w.heap.size ≤ w3.heap.size := Nat.le_trans hb.size hA.below.size
    have hll : l.length < 1000000000 := by
      have : (digs n0).length = l.length + (digs n).length := by rw [hl, List.length_append]
      omega
    have hb := hb.trans (hA.below.mono hb.size)
    have hown := hown.below hA.below
    refine wp_add rfl rfl s7 s11 hkc hown hB hll (fun z' w4 hown' hgr => ?_)
    have hsz : 12 < a3.tmps.size := by rw [hA.size]; show 12 < 16; decide
    have hb4 : Below w.heap.size w w4 := hb.trans ⟨hgr.os, hgr.tape, hgr.output, hgr.size, fun i hi => hgr.block i (by omega) (fun e => by have := hown.lt i e.symm; omega)⟩
    have hA : At (C_small n z' w4) [.val 0 (op 0), .val 12 (op 1)] (a3.put (some 12) z') w4 :=
      at_of [(0, 0, ui n), (12, 1, z')] ((put_defers _ _ _).trans hA.defers) ((put_size _ _ _).trans hA.size) (vals_cons ⟨(put_ne (show (0 : Nat) ≠ 12 by decide)).trans s0, rfl⟩ (vals_cons ⟨put_self hsz, rfl⟩ vals_nil))
    have hC := small_C n hown'.one w4
    refine ops_end hC (T := []) forall_nil (post := [.val 0 (op 0), .val 3 (op 1)]) (by kernel_rfl) hA (fun a5 w5 hA => ?_)
    show (seqR (inner (seqR l_small))).wp Tryz.prog _ _ _
    have hb5 := hb4.trans (hA.below.mono hb4.size)
    have hown5 := hown'.below hA.below
    obtain ⟨s0, hI⟩ := item_v rfl hA.items
    obtain ⟨s3, _⟩ := item_v rfl hI
    have hA : At (C_small n z' w5) [.val 0 (op 0), .val 3 (op 1)] a5 w5 := at_of [(0, 0, ui n), (3, 1, z')] hA.defers hA.size (vals_cons ⟨s0, rfl⟩ (vals_cons ⟨s3, rfl⟩ vals_nil))
    refine seg_is (small_C n hown'.one w5) (small_T n (by omega) z' w5) (x := .normal) (n := 30) (post := [.val 0 (op 4), .val 3 (op 1)]) (by kernel_rfl) hA (fun a6 w6 hA => ?_)
    obtain ⟨s0, hI⟩ := item_v rfl hA.items
    obtain ⟨s3, _⟩ := item_v rfl hI
    refine ⟨n / 10000, ⟨z', l ++ [n % 10000], ?_, by omega, hA.defers, hA.size, s0, s3, hown5.below hA.below, hb5.trans (hA.below.mono hb5.size)⟩, by show n / 10000 < n; omega⟩
    rw [hl, digs_pos h0, List.append_assoc]
    rfl
end Sym
open Go Go.RowKit Go.Proofs Lim
namespace Sym
noncomputable def CV (nt : Nat) (vl : List Value) (w : World) : Ctx := mkC (vl.map (fun _ => 1)) (vl.map (fun _ => false)) [] nt (vl.map clW) w
def ones : List Value → Bool
  | [] => true
  | v :: l => match v.oneCell' with
    | true => ones l
    | false => false
theorem CV_ok {nt : Nat} {vl : List Value} {w : World} (h : ∀ v ∈ vl, v.oneCell' = true) : (CV nt vl w).Ok := by
  refine mkC_ok (fun x hx => ?_) (by rw [List.map_map]; rfl) (by rw [List.map_map]; rfl)
  obtain ⟨v, hv, rfl⟩ := List.mem_map.1 hx
  exact clW_ok (h v hv)
theorem one_nil : ∀ v ∈ ([] : List Value), v.oneCell' = true := fun t h => by simp at h
theorem one_cons {a : Value} {l : List Value} (h : a.oneCell' = true) (k : ∀ v ∈ l, v.oneCell' = true) : ∀ t ∈ a :: l, t.oneCell' = true := fun t ht => by
  rcases List.mem_cons.1 ht with rfl | ht
  · exact h
  · exact k t ht
def Sl (a : Act) (vl : List Value) : List (Nat × Nat) → Prop
  | [] => True
  | p :: l => a.tmps[p.1]? = some (vl.getD p.2 undef) ∧ Sl a vl l
structure St' (nt : Nat) (vl : List Value) (is : List (Nat × Nat)) (a : Act) : Prop where
  defers : a.defers = []
  size : a.tmps.size = nt
  sl : Sl a vl is
def itemsOf : List (Nat × Nat) → List Item
  | [] => []
  | p :: l => .val p.1 (op p.2) :: itemsOf l
def inVl : List (Nat × Nat) → Nat → Bool
  | [], _ => true
  | p :: l, n => match Nat.blt p.2 n with
    | true => inVl l n
    | false => false
theorem getVl {vl : List Value} {c : Nat} (h : c < vl.length) : (vl.map clW)[c]? = some (clW (vl.getD c undef)) := by
  rw [List.getElem?_map, List.getElem?_eq_getElem h]
  simp [List.getD, h]
theorem St'.at {nt : Nat} {vl : List Value} {is : List (Nat × Nat)} {a : Act} {w : World} (h : St' nt vl is a) (hi : inVl is vl.length = true) : At (CV nt vl w) (itemsOf is) a w := by
  refine ⟨Below.refl _ _, h.defers, h.size, ?_⟩
  have key : ∀ (is : List (Nat × Nat)) bs, Sl a vl is → inVl is vl.length = true → ItemsAre (CV nt vl w) a w (itemsOf is) bs := by
    intro is
    induction is with
    | nil => intro _ _ _; trivial
    | cons p l ih =>
      intro bs h hi
      unfold inVl at hi
      split at hi
      · rename_i hp
        exact ⟨⟨_, h.1, (op_isW (getVl (by simpa using hp))).2 rfl⟩, ih bs h.2 hi⟩
      · cases hi
  exact key is [] h.sl hi
theorem items_sl {nt : Nat} {vl : List Value} {a : Act} {w0 w : World} {rest : List Item} : ∀ {is : List (Nat × Nat)} {bs : List Nat}, inVl is vl.length = true → ItemsAre (CV nt vl w0) a w (itemsOf is ++ rest) bs → Sl a vl is ∧ ItemsAre (CV nt vl w0) a w rest bs
  | [], bs, _, h => ⟨trivial, h⟩
  | p :: l, bs, hi, h => by
    unfold inVl at hi
    split at hi
    · rename_i hp
      obtain ⟨⟨v, h1, h2⟩, h3⟩ := h
      rw [(op_isW (getVl (by simpa using hp))).1 h2] at h1
      obtain ⟨q1, q2⟩ := items_sl hi h3
      exact ⟨⟨h1, q1⟩, q2⟩
    · cases hi
section
variable {nt : Nat} {vl : List Value} {w : World} {a : Act} {T : List Ent} {Q : Exit → Act → World → Prop}
theorem seg_v (pre post : List (Nat × Nat)) {n : Nat} {c : Code} {x : Xt} (h1 : ∀ v ∈ vl, v.oneCell' = true) (hT : ∀ t ∈ T, t.Valid (CV nt vl w)) (hs : St' nt vl pre a)
    (h : segB (CV nt vl w).toStat T n c (itemsOf pre) x (itemsOf post) = true) (hi : inVl pre vl.length = true) (hi' : inVl post vl.length = true)
    (hQ : ∀ a' w', St' nt vl post a' → Below w.heap.size w w' → Q x.to a' w') : c.wp Tryz.prog Q a w := by
  refine seg_is (CV_ok h1) hT h (hs.at hi) (fun a' w' hA => hQ a' w' ⟨hA.defers, hA.size, ?_⟩ hA.below)
  have := hA.items
  rw [← List.append_nil (itemsOf post)] at this
  exact (items_sl hi' this).1
theorem seg_vd (pre post : List (Nat × Nat)) {t : Nat} {n : Nat} {c : Code} {x : Xt} {ds : List Nat} {csz : List Nat} {numc : List Bool} {cl : List Cl} (hC : (mkC csz numc [] nt cl w).Ok) (hT : ∀ t ∈ T, t.Valid (mkC csz numc [] nt cl w)) (hs : St' nt vl pre a) (d : Nat)
    (hcl : ∀ i < vl.length, cl[i]? = some (clW (vl.getD i undef))) (hd : cl[d]? = some (clD ds))
    (h : segB (mkC csz numc [] nt cl w).toStat T n c (itemsOf pre) x (.val t (op d) :: itemsOf post) = true) (hi : inVl pre vl.length = true) (hi' : inVl post vl.length = true)
    (hQ : ∀ a' w' v, a'.tmps[t]? = some v → Dg w' v ds → St' nt vl post a' → Below w.heap.size w w' → Q x.to a' w') : c.wp Tryz.prog Q a w := by
  have hA : At (mkC csz numc [] nt cl w) (itemsOf pre) a w := by
    refine ⟨Below.refl _ _, hs.defers, hs.size, ?_⟩
    have key : ∀ (is : List (Nat × Nat)) bs, Sl a vl is → inVl is vl.length = true → ItemsAre (mkC csz numc [] nt cl w) a w (itemsOf is) bs := by
      intro is
      induction is with
      | nil => intro _ _ _; trivial
      | cons p l ih =>
        intro bs h hi
        unfold inVl at hi
        split at hi
        · rename_i hp
          exact ⟨⟨_, h.1, (op_isW (hcl _ (by simpa using hp))).2 rfl⟩, ih bs h.2 hi⟩
        · cases hi
    exact key pre [] hs.sl hi
  refine seg_is hC hT h hA (fun a' w' hA => ?_)
  obtain ⟨⟨v, h1, h2⟩, h3⟩ := hA.items
  refine hQ a' w' v h1 ((op_isD hd).1 h2) ⟨hA.defers, hA.size, ?_⟩ hA.below
  have key : ∀ (is : List (Nat × Nat)) bs, inVl is vl.length = true → ItemsAre (mkC csz numc [] nt cl w) a' w' (itemsOf is) bs → Sl a' vl is := by
    intro is
    induction is with
    | nil => intro _ _ _; trivial
    | cons p l ih =>
      intro bs hi h
      unfold inVl at hi
      split at hi
      · rename_i hp
        obtain ⟨⟨v, h1, h2⟩, h3⟩ := h
        rw [(op_isW (hcl _ (by simpa using hp))).1 h2] at h1
        exact ⟨h1, ih bs hi h3⟩
      · cases hi
  exact key post [] hi' h3
theorem seg_vf (pre post : List (Nat × Nat)) {t : Nat} {n : Nat} {c : Code} {x : Xt} {ds : List Nat} {B : Nat} {csz : List Nat} {numc : List Bool} {cl : List Cl} (hC : (mkC csz numc [] nt cl w).Ok) (hT : ∀ t ∈ T, t.Valid (mkC csz numc [] nt cl w)) (hs : St' nt vl pre a) (d : Nat)
    (hcl : ∀ i < vl.length, cl[i]? = some (clW (vl.getD i undef))) (hd : cl[d]? = some (clF B ds))
    (h : segB (mkC csz numc [] nt cl w).toStat T n c (itemsOf pre) x (.val t (op d) :: itemsOf post) = true) (hi : inVl pre vl.length = true) (hi' : inVl post vl.length = true)
    (hQ : ∀ a' w' v, a'.tmps[t]? = some v → Dg w' v ds → (∀ k, v.ownBlock = some k → B ≤ k) → St' nt vl post a' → Below w.heap.size w w' → Q x.to a' w') : c.wp Tryz.prog Q a w := by
  have hA : At (mkC csz numc [] nt cl w) (itemsOf pre) a w := by
    refine ⟨Below.refl _ _, hs.defers, hs.size, ?_⟩
    have key : ∀ (is : List (Nat × Nat)) bs, Sl a vl is → inVl is vl.length = true → ItemsAre (mkC csz numc [] nt cl w) a w (itemsOf is) bs := by
      intro is
      induction is with
      | nil => intro _ _ _; trivial
      | cons p l ih =>
        intro bs h hi
        unfold inVl at hi
        split at hi
        · rename_i hp
          exact ⟨⟨_, h.1, (op_isW (hcl _ (by simpa using hp))).2 rfl⟩, ih bs h.2 hi⟩
        · cases hi
    exact key pre [] hs.sl hi
  refine seg_is hC hT h hA (fun a' w' hA => ?_)
  obtain ⟨⟨v, h1, h2⟩, h3⟩ := hA.items
  refine hQ a' w' v h1 ((op_isF hd).1 h2).1 ((op_isF hd).1 h2).2 ⟨hA.defers, hA.size, ?_⟩ hA.below
  have key : ∀ (is : List (Nat × Nat)) bs, inVl is vl.length = true → ItemsAre (mkC csz numc [] nt cl w) a' w' (itemsOf is) bs → Sl a' vl is := by
    intro is
    induction is with
    | nil => intro _ _ _; trivial
    | cons p l ih =>
      intro bs hi h
      unfold inVl at hi
      split at hi
      · rename_i hp
        obtain ⟨⟨v, h1, h2⟩, h3⟩ := h
        rw [(op_isW (hcl _ (by simpa using hp))).1 h2] at h1
        exact ⟨h1, ih bs hi h3⟩
      · cases hi
  exact key post [] hi' h3
theorem pfW {csz : List Nat} {numc : List Bool} {okT : List Nat} {cl : List Cl} {w0 : World} {c B : Nat} {x : Value} {ds : List Nat} (h : cl[c]? = some (clW x)) (hx : Dg w0 x ds) (hB : ∀ k, x.ownBlock = some k → B ≤ k) : PF csz numc okT nt cl w0 (op c) B ds := fun w v hb h1 => by
  rw [(op_isW h).1 h1]
  exact ⟨hx.below hb (Nat.le_refl _), hB⟩
def apartFrom : List (Nat × Nat) → Nat → Bool
  | [], _ => true
  | p :: l, d => match Nat.beq p.1 d with
    | true => false
    | false => apartFrom l d
theorem Sl.put {is : List (Nat × Nat)} {d : Nat} {v : Value} : apartFrom is d = true → Sl a vl is → Sl (a.put (some d) v) vl is := by
  induction is with
  | nil => intro _ _; trivial
  | cons p l ih =>
    intro h hs
    unfold apartFrom at h
    split at h
    · cases h
    · rename_i hp
      refine ⟨(put_ne (fun e => ?_)).trans hs.1, ih h hs.2⟩
      rw [e] at hp
      simp at hp
theorem push_v (pre post : List (Nat × Nat)) {id : Nat} {l : List Oper} (i : Nat) {oa os : Oper} {s x d t B cd : Nat} {z : Value} {ds : List Nat} {dg : Nat} (h1 : ∀ v ∈ vl, v.oneCell' = true) (hT : ∀ t ∈ T, t.Valid (CV nt vl w)) (hs : St' nt vl pre a) (cz : Nat)
    (h : opsB (CV nt vl w).toStat T (l.take i) (itemsOf pre) (itemsOf ((s, cz) :: post) ++ [.own x 3 1 [.cls cd 1]]) = true) (hl : l.drop i = [oa, os]) (hg : oa.guard = none) (hg' : os.guard = none)
    (ho : oa.op = .call { callee := .builtin .append, args := #[.tmp s, .tmp x], argTypes := #[31, 31] }) (hd : oa.dst = some d) (ho' : os.op = .assign (.tmp d)) (hd' : os.dst = some t)
    (hcz : vl[cz]? = some z) (hcd : vl[cd]? = some (ii (dg : Int))) (hlim : Nat.blt d nt = true) (hlim' : Nat.blt t nt = true) (hap : apartFrom post d = true) (hap' : apartFrom post t = true)
    (hi : inVl pre vl.length = true) (hi' : inVl ((s, cz) :: post) vl.length = true) (hown : Own B w z ds) (hB : B ≤ w.heap.size) (hlen : ds.length < 1000000000)
    (hQ : ∀ z' a' w', a'.tmps[t]? = some z' → Own B w' z' (ds ++ [dg]) → St' nt vl post a' → Below B w w' → Q .normal a' w') : (Code.region id l.toArray false).wp Tryz.prog Q a w := by
  refine wp_region_lit ?_
  rw [show wpList Tryz.prog l.toArray Q l a w = wpList Tryz.prog l.toArray Q (l.take i ++ l.drop i) a w by rw [List.take_append_drop], hl]
  refine ops_is (CV_ok h1) hT h (hs.at hi) (fun a2 w2 hA => ?_)
  obtain ⟨⟨sz, hsl⟩, ⟨k, vs, s11, hk, hkc, hvs⟩, _⟩ := items_sl hi' hA.items
  have hvs : vs = [ii (dg : Int)] := by
    obtain ⟨xs, ys, rfl, ⟨f, hE, rfl⟩, hy⟩ := hvs
    rw [show ys = [] from hy]
    have hc := getVl (vl := vl) (c := cd) (List.getElem?_eq_some_iff.1 hcd).1
    rw [show vl.getD cd undef = ii (dg : Int) by rw [List.getD, hcd]; rfl] at hc
    simp only [CV, mkC, hc] at hE
    have hE : f 0 = ii (dg : Int) := hE
    simp [List.range_succ, hE]
  subst hvs
  have sz : a2.tmps[s]? = some z := by
    rw [sz, List.getD, hcz]; rfl
  have hB2 : B ≤ w2.heap.size := Nat.le_trans hB hA.below.size
  refine wp_add hg ho sz s11 hkc (hown.below hA.below) hB2 hlen (fun z' w3 hown' hgr => ?_)
  rw [hd]
  refine wpList_plain hg' (fun K hK => ?_)
  have hsz : d < a2.tmps.size := by
    have : d < nt := by simpa using hlim
    rw [hA.size]; exact this
  have hst : t < (a2.put (some d) z').tmps.size := by
    have : t < nt := by simpa using hlim'
    rw [put_size, hA.size]; exact this
  have hev : (a2.put (some d) z').eval (.tmp d) = z' := by simp [Act.eval, Array.getD_eq_getD_getElem?, put_self hsz]
  have hw : (execOp (a2.put (some d) z').eval os).run (CV nt vl w).P w3 = .ok (.value z') w3 := by simp only [execOp, ho', hev]; rfl
  refine wp_of_value hw (hK _ _ ?_)
  rw [hd']
  have hlt := (hown.below hA.below).lt
  refine hQ z' _ w3 (put_self hst) hown' ⟨(put_defers _ _ _).trans ((put_defers _ _ _).trans hA.defers), (put_size _ _ _).trans ((put_size _ _ _).trans hA.size), Sl.put hap' (Sl.put hap hsl)⟩ ?_
  exact (hA.below.mono hB).trans ⟨hgr.os, hgr.tape, hgr.output, hgr.size, fun i hi => hgr.block i (by omega) (fun e => by have := hlt i e.symm; omega)⟩
end
def Ll (a : Act) : List (Nat × Value) → Prop
  | [] => True
  | p :: l => a.tmps[p.1]? = some p.2 ∧ Ll a l
def litsOf : List (Nat × Value) → List Item
  | [] => []
  | p :: l => .val p.1 (vp p.2) :: litsOf l
theorem lits_ll {C : Ctx} {a : Act} {w : World} : ∀ {l : List (Nat × Value)} {bs : List Nat}, ItemsAre C a w (litsOf l) bs → Ll a l
  | [], _, _ => trivial
  | p :: l, bs, ⟨⟨v, h1, h2⟩, h3⟩ => by
    rw [vp_is.1 h2] at h1
    exact ⟨h1, lits_ll h3⟩
theorem seg_vl {nt : Nat} {vl : List Value} {w : World} {a : Act} {T : List Ent} {Q : Exit → Act → World → Prop} (pre post : List (Nat × Nat)) (lits : List (Nat × Value)) {n : Nat} {c : Code} {x : Xt} (h1 : ∀ v ∈ vl, v.oneCell' = true) (hT : ∀ t ∈ T, t.Valid (CV nt vl w)) (hs : St' nt vl pre a)
    (h : segB (CV nt vl w).toStat T n c (itemsOf pre) x (itemsOf post ++ litsOf lits) = true) (hi : inVl pre vl.length = true) (hi' : inVl post vl.length = true)
    (hQ : ∀ a' w', St' nt vl post a' → Ll a' lits → Below w.heap.size w w' → Q x.to a' w') : c.wp Tryz.prog Q a w := by
  refine seg_is (CV_ok h1) hT h (hs.at hi) (fun a' w' hA => ?_)
  obtain ⟨q1, q2⟩ := items_sl hi' hA.items
  exact hQ a' w' ⟨hA.defers, hA.size, q1⟩ (lits_ll q2) hA.below
theorem calls_v2 {nt : Nat} {w : World} {f : FuncId} {fn : Func} {c : Code} (hf : Tryz.prog.funcs[f]? = some fn) (hb : fn.body = some c) (hnt : fn.ntmps = nt) (hlen : Nat.ble 2 nt = true) (x y : Value) {Q : Ending → World → Prop}
    (h : ∀ a, St' nt [x, y] [(0, 0), (1, 1)] a → c.wp Tryz.prog (bodyPost Tryz.prog fn Q) a w) : Calls Tryz.prog f #[x, y] w Q :=
  calls_at (C := CV nt [x, y] w) (args := [op 0, op 1]) hf hb hnt (Nat.le_of_ble_eq_true hlen) (vs := [x, y]) ⟨_, _, rfl, (op_isW rfl).2 rfl, _, _, rfl, (op_isW rfl).2 rfl, rfl⟩ (fun a hA => h a ⟨hA.defers, hA.size, (items_sl (is := [(0, 0), (1, 1)]) (rest := []) rfl hA.items).1⟩)
theorem ret_v {fn : Func} {t : Nat} {a : Act} {w : World} {v : Value} (hr : fn.results = #[.tmp t]) (hd : a.defers = []) (ht : a.tmps[t]? = some v) {Q : Ending → World → Prop} (h : Q (.returned v) w) : bodyPost Tryz.prog fn Q .ret a w := by
  refine ⟨hd, v, ?_, h⟩
  rw [results_eq, hr]
  have : a.tmps.getD t undef = v := by rw [Array.getD_eq_getD_getElem?, ht]; rfl
  simp [resF, this]
theorem empty_v {nt : Nat} {vl : List Value} {w : World} {a : Act} {Q : Exit → Act → World → Prop} (is : List (Nat × Nat)) {id : Nat} {o1 o2 : Oper} {d t : Nat} (hs : St' nt vl is a) (hg : o1.guard = none) (hg' : o2.guard = none) (ho : o1.op = .buildSlice 31 0 #[]) (hd : o1.dst = some d) (ho' : o2.op = .assign (.tmp d)) (hd' : o2.dst = some t)
    (hlim : Nat.blt d nt = true) (hlim' : Nat.blt t nt = true) (hap : apartFrom is d = true) (hap' : apartFrom is t = true) {B : Nat} (hB : B ≤ w.heap.size)
    (hQ : ∀ z a' w', a'.tmps[t]? = some z → Own B w' z [] → St' nt vl is a' → Below w.heap.size w w' → Q .normal a' w') : (Code.region id [o1, o2].toArray false).wp Tryz.prog Q a w := by
  refine wp_region_lit (wp_empty hg ho ?_)
  rw [hd]
  refine wpList_plain hg' (fun K hK => ?_)
  have hsz : d < a.tmps.size := by
    have : d < nt := by simpa using hlim
    rw [hs.size]; exact this
  have hst : ∀ v, t < (a.put (some d) v).tmps.size := fun v => by
    have : t < nt := by simpa using hlim'
    rw [put_size, hs.size]; exact this
  have hev : ∀ z', (a.put (some d) z').eval (.tmp d) = z' := fun z' => by simp [Act.eval, Array.getD_eq_getD_getElem?, put_self hsz]
  have hw : (execOp (a.put (some d) (.slice (some ⟨w.heap.size, 0, none⟩) 0 0)).eval o2).run Tryz.prog (w.alloc (.cells #[] 3)) = .ok (.value (.slice (some ⟨w.heap.size, 0, none⟩) 0 0)) (w.alloc (.cells #[] 3)) := by simp only [execOp, ho', hev]; rfl
  unfold Oper.wp
  rw [hw]
  refine hK _ _ ?_
  rw [hd']
  refine hQ _ _ _ (put_self (hst _)) (Own.fresh (heap_alloc_new w _) hB) ⟨(put_defers _ _ _).trans ((put_defers _ _ _).trans hs.defers), (put_size _ _ _).trans ((put_size _ _ _).trans hs.size), Sl.put hap' (Sl.put hap hs.sl)⟩ ((Below.refl _ _).alloc (Nat.le_refl _) _)
theorem strip_cons (d : Nat) (l : List Nat) : strip (d :: l) = if d = 0 ∧ strip l = [] then [] else d :: strip l := by
  have key : ∀ (l : List Nat), (l ++ [d]).dropWhile (fun d => d == 0) = if l.dropWhile (fun d => d == 0) = [] then [d].dropWhile (fun d => d == 0) else l.dropWhile (fun d => d == 0) ++ [d] := by
    intro l
    induction l with
    | nil => simp
    | cons e l ih =>
      simp only [List.cons_append, List.dropWhile_cons]
      split
      · rw [ih]; simp [List.dropWhile_cons]
      · simp
  unfold strip
  rw [List.reverse_cons, key]
  by_cases h : l.reverse.dropWhile (fun d => d == 0) = []
  · by_cases hd : d = 0 <;> simp [h, hd]
  · simp [h]
theorem digs_nat : ∀ {l : List Nat}, (∀ d ∈ l, d < 10000) → digs (nat l) = strip l
  | [], _ => by rw [strip_nil]; exact digs_zero
  | d :: l, h => by
    have ih := digs_nat (l := l) (fun x hx => h x (List.mem_cons_of_mem _ hx))
    have hd := h d (by simp)
    rw [strip_cons, ← ih]
    show digs (d + 10000 * nat l) = _
    by_cases h0 : d + 10000 * nat l = 0
    · rw [h0, digs_zero, if_pos ⟨by omega, by rw [show nat l = 0 by omega, digs_zero]⟩]
    · rw [digs_pos h0, show (d + 10000 * nat l) % 10000 = d by omega, show (d + 10000 * nat l) / 10000 = nat l by omega, if_neg]
      rintro ⟨h1, h2⟩
      apply h0
      have : nat l = 0 := by
        cases hn : nat l with
        | zero => rfl
        | succ m => rw [digs_pos (by omega)] at h2; cases h2
      omega
theorem nat_snoc : ∀ (l : List Nat) (d : Nat), nat (l ++ [d]) = nat l + 10000 ^ l.length * d
  | [], d => by simp [nat]
  | e :: l, d => by
    show e + 10000 * nat (l ++ [d]) = e + 10000 * nat l + 10000 ^ (l.length + 1) * d
    rw [nat_snoc l d, Nat.pow_succ, Nat.mul_add, Nat.add_assoc, Nat.mul_comm (10000 ^ l.length) 10000, Nat.mul_assoc]
theorem nat_bound : ∀ {l : List Nat}, (∀ d ∈ l, d < 10000) → nat l < 10000 ^ l.length
  | [], _ => by simp [nat]
  | d :: l, h => by
    have := nat_bound (l := l) (fun x hx => h x (List.mem_cons_of_mem _ hx))
    have hd := h d (by simp)
    show d + 10000 * nat l < 10000 ^ (l.length + 1)
    rw [Nat.pow_succ]
    omega
theorem nat_drop (ds : List Nat) (i : Nat) : nat (ds.drop i) = ds.getD i 0 + 10000 * nat (ds.drop (i + 1)) := by
  rw [nat_head (ds.drop i)]
  congr 1
  · simp [List.getD, List.getElem?_drop]
  · rw [List.tail_drop]
theorem nat_drop_end {ds : List Nat} {i : Nat} (h : ds.length ≤ i) : nat (ds.drop i) = 0 := by
  rw [List.drop_eq_nil_of_le h]; rfl
def ptrAt : Value → Nat → Value
  | .slice (some ⟨b, off, none⟩) _ _, n => .pointer (some ⟨b, off + n, none⟩)
  | _, _ => .pointer none
theorem ptrAt_one (v : Value) (n : Nat) : (ptrAt v n).oneCell' = true := by unfold ptrAt; split <;> rfl
section
variable {csz : List Nat} {numc : List Bool} {okT : List Nat} {nt : Nat} {cl : List Cl} {w0 : World} {p1 p2 : Pat} {res : RPat} {ds : List Nat} {n : Nat} {x : Value}
theorem e_ixW {t : Nat} (ht : Tryz.prog.underlying t = some (.slice (Tryz.prog.elem t))) (he : Tryz.prog.elem t = 3) (h1 : PV csz numc okT nt cl w0 p1 x) (hx : Dg w0 x ds) (h2 : PV csz numc okT nt cl w0 p2 (ii (n : Int))) (hn : n < ds.length) (h3 : RV csz numc okT nt cl w0 res (ptrAt x n)) : V csz numc okT nt cl w0 (.ix t) [p1, p2] res := by
  intro w ρ oo xs ho hb hvs
  obtain ⟨a, b, hop, rfl⟩ := hd_ix ho
  obtain ⟨v1, _, e1, h4, v2, _, e2, h5, e3⟩ := hvs
  obtain rfl := h1 _ _ h4
  obtain rfl := h2 _ _ h5
  subst e2
  simp only [List.map_cons, List.map_nil, List.cons.injEq] at e1
  obtain ⟨ea, eb, _⟩ := e1
  obtain ⟨ao, cap, rfl, h6, h7, h8⟩ := hx
  obtain ⟨k, off, rfl, hcs, hr⟩ := h8 (by omega)
  refine ⟨_, w, ?_, h3 w, Below.refl _ _⟩
  show (execOp ρ oo).run Tryz.prog w = _
  have hs : (sizeOf (Tryz.prog.elem t)).run Tryz.prog w = .ok 1 w := by rw [he]; exact size_int w
  simp only [execOp, hop, ea, eb, Sem.run_bind, run_indexAt_slice _ _ _ _ _ _ _ ht]
  rw [if_pos (by omega)]
  simp [hs, Result.andThen, Addr.add, ptrAt]
theorem e_ldW (h1 : PV csz numc okT nt cl w0 p1 (ptrAt x n)) (hx : Dg w0 x ds) (hn : n < ds.length) (h3 : RV csz numc okT nt cl w0 res (ii ((ds.getD n 0 : Nat) : Int))) : V csz numc okT nt cl w0 (.ld 3) [p1] res := by
  intro w ρ oo xs ho hb hvs
  obtain ⟨a, hop, rfl⟩ := hd_ld ho
  obtain ⟨v1, _, e1, h4, e2⟩ := hvs
  obtain rfl := h1 _ _ h4
  subst e2
  simp only [List.map_cons, List.map_nil, List.cons.injEq] at e1
  obtain ⟨ea, _⟩ := e1
  obtain ⟨ao, cap, rfl, h6, h7, h8⟩ := hx.below hb (Nat.le_refl _)
  obtain ⟨k, off, rfl, hcs, hr⟩ := h8 (by omega)
  refine ⟨_, w, ?_, h3 w, Below.refl _ _⟩
  show (execOp ρ oo).run Tryz.prog w = _
  simp only [execOp, hop, ea, ptrAt, Instr.loadAt, Instr.sureAddr, Sem.run_bind, Sem.run_pure, Result.andThen_ok, loadVar, agg_int]
  simp [hr n hn]
end
end Sym
open Go Go.RowKit Go.Proofs Lim
namespace Sym
abbrev vl_sum (x y z : Value) (ds es : List Nat) (i c : Nat) : List Value := [x, y, z, ii (c : Int), ii (i : Int), ii (ds.length : Int), ii (es.length : Int), ii ((ds.getD i 0 : Nat) : Int), ii ((es.getD i 0 : Nat) : Int), ii ((ds.getD i 0 + es.getD i 0 : Nat) : Int), ii ((ds.getD i 0 + es.getD i 0 + c : Nat) : Int), ii (((ds.getD i 0 + es.getD i 0 + c) % 10000 : Nat) : Int), ii (((ds.getD i 0 + es.getD i 0 + c) / 10000 : Nat) : Int), ii ((i + 1 : Nat) : Int)]
def t_sum (b1 b2 b3 : Bool) : List Ent := [⟨.blt .len [31] 3, [op 0], .val (op 5)⟩, ⟨.blt .len [31] 3, [op 1], .val (op 6)⟩, ⟨.bin .lss 3, [op 4, op 5], .val (vp (.bool b1))⟩, ⟨.bin .lss 3, [op 4, op 6], .val (vp (.bool b2))⟩, ⟨.bin .gtr 3, [op 3, vp (ii 0)], .val (vp (.bool b3))⟩,
  ⟨.call 127, [op 0, op 4], .val (op 7)⟩, ⟨.call 127, [op 1, op 4], .val (op 8)⟩, ⟨.bin .add 3, [op 7, op 8], .val (op 9)⟩, ⟨.bin .add 3, [op 9, op 3], .val (op 10)⟩, ⟨.bin .rem 3, [op 10, vp (ii 10000)], .val (op 11)⟩, ⟨.bin .quo 3, [op 10, vp (ii 10000)], .val (op 12)⟩, ⟨.bin .add 3, [op 4, vp (ii 1)], .val (op 13)⟩]
theorem sum_one {x y z : Value} (hx : x.oneCell' = true) (hy : y.oneCell' = true) (hz : z.oneCell' = true) (ds es : List Nat) (i c : Nat) : ∀ v ∈ vl_sum x y z ds es i c, v.oneCell' = true :=
  one_cons hx (one_cons hy (one_cons hz (one_cons rfl (one_cons rfl (one_cons rfl (one_cons rfl (one_cons rfl (one_cons rfl (one_cons rfl (one_cons rfl (one_cons rfl (one_cons rfl (one_cons rfl one_nil)))))))))))))
theorem sum_T {x y z : Value} {ds es : List Nat} {w : World} (hx : Dg w x ds) (hy : Dg w y es) (hds : Dig ds) (hes : Dig es) {i c : Nat} (hc : c ≤ 1) (hi : i < 1000000000) {b1 b2 b3 : Bool} (h1 : decide (i < ds.length) = b1) (h2 : decide (i < es.length) = b2) (h3 : decide (0 < c) = b3) : ∀ t ∈ t_sum b1 b2 b3, t.Valid (CV 44 (vl_sum x y z ds es i c) w) :=
  have hd := hds i
  have he := hes i
  forall_cons (e_len und_nat (pdW rfl hx) (rvW rfl)) (forall_cons (e_len und_nat (pdW rfl hy) (rvW rfl)) (forall_cons (e_lss (pvW rfl) (pvW rfl) (by rw [← h1]; simp)) (forall_cons (e_lss (pvW rfl) (pvW rfl) (by rw [← h2]; simp)) (forall_cons (e_gtr (pvW rfl) pvl (by rw [← h3]; simp))
    (forall_cons (e_digit (i := i) (pdW rfl hx) (pvW rfl) (rvW rfl)) (forall_cons (e_digit (i := i) (pdW rfl hy) (pvW rfl) (rvW rfl)) (forall_cons (e_add (by omega) (pvW rfl) (pvW rfl) (rvW rfl) (by omega)) (forall_cons (e_add (by omega) (pvW rfl) (pvW rfl) (rvW rfl) (by omega))
      (forall_cons (e_rem (k := .i64) (n := 10000) (pvW rfl) pvl (rvW rfl) (by decide)) (forall_cons (e_quo (k := .i64) (n := 10000) (pvW rfl) pvl (rvW rfl) (by decide) (by rw [IntKind.wrap_i64]; omega)) (forall_cons (e_add (by omega) (pvW rfl) pvl (rvW rfl) (by omega)) forall_nil)))))))))))
noncomputable def b_sum : Code := bodyOf Tryz.f94
noncomputable def l_sum : Code := inner (inner (seqR (seqL (seqR (seqR (seqR b_sum))))))
theorem Dg.one {w : World} {v : Value} {ds : List Nat} (h : Dg w v ds) : v.oneCell' = true := by
  obtain ⟨ao, cap, rfl, _⟩ := h
  rfl
theorem sum_ok (x y : Value) (ds es : List Nat) (w : World) (hx : Dg w x ds) (hy : Dg w y es) (hds : Dig ds) (hes : Dig es) (hl1 : ds.length < 100000000) (hl2 : es.length < 100000000) : Calls Tryz.prog 94 #[x, y] w (fun e w' => ∃ v, e = .returned v ∧ Dg w' v (digs (nat ds + nat es)) ∧ Below w.heap.size w w') := by
  refine calls_v2 (nt := 44) (f := 94) Tryz.func94 (c := .seq (seqL b_sum) (.seq (seqL (seqR b_sum)) (.seq (seqL (seqR (seqR b_sum))) (.seq (.seq (seqL (seqL (seqR (seqR (seqR b_sum))))) (.block 0 (.loop l_sum))) (seqR (seqR (seqR (seqR b_sum)))))))) rfl rfl rfl x y (fun a hs => ?_)
  have one2 : ∀ v ∈ [x, y], v.oneCell' = true := one_cons hx.one (one_cons hy.one one_nil)
  refine wp_seq (seg_v (T := []) [(0, 0), (1, 1)] [(0, 0), (1, 1)] (n := 30) (x := .normal) one2 forall_nil hs (by kernel_rfl) rfl rfl (fun a1 w1 hs hb1 => ?_))
  refine wp_seq ?_
  show (Code.region 1 [_, _].toArray false).wp Tryz.prog _ _ _
  refine empty_v [(0, 0), (1, 1)] (d := 9) (t := 5) hs rfl rfl rfl rfl rfl rfl rfl rfl rfl rfl (B := w.heap.size) hb1.size (fun z a2 w2 hz hown hs hb2 => ?_)
  have hb2 := hb1.trans (hb2.mono hb1.size)
  have hs : St' 44 [x, y, z] [(5, 2), (0, 0), (1, 1)] a2 := ⟨hs.defers, hs.size, hz, hs.sl⟩
  have one3 : ∀ v ∈ [x, y, z], v.oneCell' = true := one_cons hx.one (one_cons hy.one (one_cons hown.one one_nil))
  refine wp_seq (seg_vl (T := []) [(5, 2), (0, 0), (1, 1)] [(5, 2), (0, 0), (1, 1)] [(6, ii 0)] (n := 30) (x := .normal) one3 forall_nil hs (by kernel_rfl) rfl rfl (fun a3 w3 hs hl6 hb3 => ?_))
  have hs : St' 44 [x, y, z, ii 0] [(5, 2), (0, 0), (1, 1), (6, 3)] a3 := ⟨hs.defers, hs.size, hs.sl.1, hs.sl.2.1, hs.sl.2.2.1, hl6.1, trivial⟩
  have one4 : ∀ v ∈ [x, y, z, ii 0], v.oneCell' = true := one_cons hx.one (one_cons hy.one (one_cons hown.one (one_cons rfl one_nil)))
  refine wp_seq (wp_seq (seg_vl (T := []) [(5, 2), (0, 0), (1, 1), (6, 3)] [(5, 2), (0, 0), (1, 1), (6, 3)] [(7, ii 0)] (n := 30) (x := .normal) one4 forall_nil hs (by kernel_rfl) rfl rfl (fun a4 w4 hs hl7 hb4 => ?_)))
  have hown := (hown.below hb3).below hb4
  have hb4 := (hb2.trans (hb3.mono hb2.size)).trans (hb4.mono (Nat.le_trans hb2.size hb3.size))
  have hs : St' 44 (vl_sum x y z ds es 0 0) [(0, 0), (1, 1), (5, 2), (6, 3), (7, 4)] a4 := ⟨hs.defers, hs.size, hs.sl.2.1, hs.sl.2.2.1, hs.sl.1, hs.sl.2.2.2.1, hl7.1, trivial⟩
  refine while_is (Θ := Nat × Nat) (fun θ a w1 => ∃ z l, θ.2 ≤ 1 ∧ (θ.1 ≤ max ds.length es.length ∨ θ.1 = max ds.length es.length + 1 ∧ θ.2 = 0) ∧ l.length = θ.1 ∧ (∀ d ∈ l, d < 10000) ∧ nat ds + nat es = nat l + 10000 ^ θ.1 * (nat (ds.drop θ.1) + nat (es.drop θ.1) + θ.2) ∧ St' 44 (vl_sum x y z ds es θ.1 θ.2) [(0, 0), (1, 1), (5, 2), (6, 3), (7, 4)] a ∧ Own w.heap.size w1 z l ∧ Below w.heap.size w w1) (fun θ => 2 * (max ds.length es.length - θ.1) + θ.2) ?_ (0, 0) ⟨z, [], by simp, .inl (Nat.zero_le _), rfl, by simp, by simp [nat], hs, hown, hb4⟩
  rintro ⟨i, c⟩ a w1 ⟨z, l, hc, hi, hll, hdl, hnat, hs, hown, hb⟩
  have hx1 := hx.below hb (Nat.le_refl _)
  have hy1 := hy.below hb (Nat.le_refl _)
  have one := sum_one hx.one hy.one hown.one ds es i c
  have hi' : i < 1000000000 := by
    rcases hi with hi | ⟨hi, _⟩
    · have hi : i ≤ max ds.length es.length := hi
      omega
    · have hi : i = max ds.length es.length + 1 := hi
      omega
  by_cases hend : ¬ i < ds.length ∧ ¬ i < es.length ∧ ¬ 0 < c
  · obtain ⟨e1, e2, e3⟩ := hend
    refine wp_seq (seg_v [(0, 0), (1, 1), (5, 2), (6, 3), (7, 4)] [(5, 2)] (n := 30) (x := .exit 0) one (sum_T (z := z) hx1 hy1 hds hes hc hi' (decide_eq_false e1) (decide_eq_false e2) (decide_eq_false e3)) hs (by kernel_rfl) rfl rfl (fun a5 w5 hs hb5 => ?_))
    have hown := hown.below hb5
    have hb := hb.trans (hb5.mono hb.size)
    have hs : St' 44 [z] [(5, 0)] a5 := ⟨hs.defers, hs.size, hs.sl⟩
    have hC : (mkC [1, 1] [false, false] [] 44 [clW z, clD (strip l)] w5).Ok := mkC_ok (oks_cons (clW_ok hown.one) (oks_cons (clD_ok noT _) oks_nil)) rfl rfl
    have hT : ∀ t ∈ [(⟨.call 123, [op 0], .val (op 1)⟩ : Ent)], t.Valid (mkC [1, 1] [false, false] [] 44 [clW z, clD (strip l)] w5) := forall_cons (e_trim (pdW rfl hown.dg) (rd rfl)) forall_nil
    refine seg_vd (vl := [z]) [(5, 0)] [] (t := 4) (ds := strip l) hC hT hs 1 (fun i hi => ?_) rfl (n := 30) (x := .ret) (by kernel_rfl) rfl rfl (fun a6 w6 v h4 hv hs hb6 => ret_v rfl hs.defers h4 ⟨v, rfl, ?_, hb.trans (hb6.mono hb.size)⟩)
    · have hi : i < 1 := hi
      obtain rfl : i = 0 := by omega
      rfl
    · rw [hnat, nat_drop_end (by omega), nat_drop_end (by omega), show c = 0 by omega]
      simp only [Nat.add_zero, Nat.mul_zero]
      rw [digs_nat hdl]
      exact hv
  · have key : ∀ (Q' : Exit → Act → World → Prop), (∀ a' w', St' 44 (vl_sum x y z ds es i c) [(0, 0), (1, 1), (5, 2), (6, 3), (7, 4)] a' → Below w1.heap.size w1 w' → Q' .normal a' w') → (seqL l_sum).wp Tryz.prog Q' a w1 := by
      intro Q' hQ
      cases h1 : decide (i < ds.length) <;> cases h2 : decide (i < es.length) <;> cases h3 : decide (0 < c)
      · exfalso
        have h1 := of_decide_eq_false h1
        have h2 := of_decide_eq_false h2
        have h3 := of_decide_eq_false h3
        exact hend ⟨h1, h2, h3⟩
      all_goals exact seg_v [(0, 0), (1, 1), (5, 2), (6, 3), (7, 4)] [(0, 0), (1, 1), (5, 2), (6, 3), (7, 4)] (n := 30) (x := .normal) one (sum_T (z := z) hx1 hy1 hds hes hc hi' h1 h2 h3) hs (by kernel_rfl) rfl rfl hQ
    have hdi := hds i
    have hei := hes i
    refine wp_seq (key _ (fun a5 w5 hs hb5 => ?_))
    have hown := hown.below hb5
    have hb := hb.trans (hb5.mono hb.size)
    refine wp_seq (wp_block (wp_seq (seg_v [(0, 0), (1, 1), (5, 2), (6, 3), (7, 4)] [(0, 0), (1, 1), (5, 2), (7, 4), (8, 10)] (n := 30) (x := .normal) one (sum_T (z := z) (hx.below hb (Nat.le_refl _)) (hy.below hb (Nat.le_refl _)) hds hes hc hi' rfl rfl rfl) hs (by kernel_rfl) rfl rfl (fun a6 w6 hs hb6 => ?_))))
    have hown := hown.below hb6
    have hb := hb.trans (hb6.mono hb.size)
    refine wp_seq ?_
    show (Code.region 7 (opsOf (seqL (seqR (inner (seqL (seqR l_sum)))))).toArray false).wp Tryz.prog _ _ _
    refine push_v [(0, 0), (1, 1), (5, 2), (7, 4), (8, 10)] [(0, 0), (1, 1), (7, 4), (8, 10)] 4 (s := 35) (x := 38) (d := 39) (t := 5) (cd := 11) (z := z) (ds := l) (dg := (ds.getD i 0 + es.getD i 0 + c) % 10000) one (sum_T (z := z) (hx.below hb (Nat.le_refl _)) (hy.below hb (Nat.le_refl _)) hds hes hc hi' rfl rfl rfl) hs 2 (by kernel_rfl) rfl rfl rfl rfl rfl rfl rfl rfl rfl rfl rfl rfl rfl rfl rfl hown hb.size (by omega) (fun z' a7 w7 h5 hown hs hb7 => ?_)
    have hb := hb.trans hb7
    have one := sum_one hx.one hy.one hown.one ds es i c
    have hs : St' 44 (vl_sum x y z' ds es i c) [(0, 0), (1, 1), (5, 2), (7, 4), (8, 10)] a7 := ⟨hs.defers, hs.size, hs.sl.1, hs.sl.2.1, h5, hs.sl.2.2⟩
    refine seg_v [(0, 0), (1, 1), (5, 2), (7, 4), (8, 10)] [(0, 0), (1, 1), (5, 2), (6, 12), (7, 4)] (n := 30) (x := .normal) one (sum_T (z := z') (hx.below hb (Nat.le_refl _)) (hy.below hb (Nat.le_refl _)) hds hes hc hi' rfl rfl rfl) hs (by kernel_rfl) rfl rfl (fun a8 w8 hs hb8 => ?_)
    have hown := hown.below hb8
    have hb := hb.trans (hb8.mono hb.size)
    show (seqR (seqR l_sum)).wp Tryz.prog _ _ _
    refine seg_v [(0, 0), (1, 1), (5, 2), (6, 12), (7, 4)] [(0, 0), (1, 1), (5, 2), (6, 12), (7, 13)] (n := 30) (x := .normal) one (sum_T (z := z') (hx.below hb (Nat.le_refl _)) (hy.below hb (Nat.le_refl _)) hds hes hc hi' rfl rfl rfl) hs (by kernel_rfl) rfl rfl (fun a9 w9 hs hb9 => ?_)
    have hown := hown.below hb9
    have hb := hb.trans (hb9.mono hb.size)
    refine ⟨(i + 1, (ds.getD i 0 + es.getD i 0 + c) / 10000), ⟨z', l ++ [(ds.getD i 0 + es.getD i 0 + c) % 10000], ?_, ?_, ?_, ?_, ?_, ⟨hs.defers, hs.size, hs.sl⟩, hown, hb⟩, ?_⟩
    · show (ds.getD i 0 + es.getD i 0 + c) / 10000 ≤ 1
      omega
    · by_cases h : i < ds.length ∨ i < es.length
      · exact .inl (by show i + 1 ≤ _; omega)
      · have e1 : ds.getD i 0 = 0 := by rw [List.getD_eq_getElem?_getD, List.getElem?_eq_none (by omega)]; rfl
        have e2 : es.getD i 0 = 0 := by rw [List.getD_eq_getElem?_getD, List.getElem?_eq_none (by omega)]; rfl
        refine .inr ⟨?_, ?_⟩
        · show i + 1 = _
          omega
        · show (ds.getD i 0 + es.getD i 0 + c) / 10000 = 0
          omega
    · simp [hll]
    · intro d hd
      rcases List.mem_append.1 hd with h | h
      · exact hdl d h
      · have : d = (ds.getD i 0 + es.getD i 0 + c) % 10000 := by simpa using h
        omega
    · rw [hnat, nat_snoc, nat_drop ds i, nat_drop es i, hll]
      simp only
      generalize nat (ds.drop (i + 1)) = da
      generalize nat (es.drop (i + 1)) = ea
      have hs := Nat.mod_add_div (ds.getD i 0 + es.getD i 0 + c) 10000
      generalize (ds.getD i 0 + es.getD i 0 + c) / 10000 = q at hs ⊢
      generalize (ds.getD i 0 + es.getD i 0 + c) % 10000 = r at hs ⊢
      rw [Nat.pow_succ, Nat.mul_assoc (10000 ^ i), Nat.add_assoc (nat l), ← Nat.mul_add]
      congr 2
      omega
    · show 2 * (max ds.length es.length - (i + 1)) + (ds.getD i 0 + es.getD i 0 + c) / 10000 < 2 * (max ds.length es.length - i) + c
      by_cases h : i < ds.length ∨ i < es.length
      · omega
      · have e1 : ds.getD i 0 = 0 := by rw [List.getD_eq_getElem?_getD, List.getElem?_eq_none (by omega)]; rfl
        have e2 : es.getD i 0 = 0 := by rw [List.getD_eq_getElem?_getD, List.getElem?_eq_none (by omega)]; rfl
        omega
end Sym
open Go Go.RowKit Go.Proofs Lim
namespace Sym
abbrev vl_rest (x y z : Value) (ds es : List Nat) (i b : Nat) (dd : Nat) : List Value := [x, y, z, ii (b : Int), ii (i : Int), ii (ds.length : Int), ptrAt x i, ii ((ds.getD i 0 : Nat) : Int), ii ((es.getD i 0 : Nat) : Int), ii (((ds.getD i 0 : Nat) : Int) - ((es.getD i 0 : Nat) : Int)), ii (((ds.getD i 0 : Nat) : Int) - ((es.getD i 0 : Nat) : Int) - (b : Int)), ii (dd : Int), ii ((i + 1 : Nat) : Int), ii 0]
def t_rest0 : List Ent := [⟨.blt .len [31] 3, [op 0], .val (op 5)⟩, ⟨.bin .lss 3, [op 4, op 5], .val (vp (.bool false))⟩]
def t_rest (b2 : Bool) : List Ent := [⟨.blt .len [31] 3, [op 0], .val (op 5)⟩, ⟨.bin .lss 3, [op 4, op 5], .val (vp (.bool true))⟩, ⟨.ix 31, [op 0, op 4], .val (op 6)⟩, ⟨.ld 3, [op 6], .val (op 7)⟩, ⟨.call 127, [op 1, op 4], .val (op 8)⟩, ⟨.bin .sub 3, [op 7, op 8], .val (op 9)⟩, ⟨.bin .sub 3, [op 9, op 3], .val (op 10)⟩,
  ⟨.bin .lss 3, [op 10, vp (ii 0)], .val (vp (.bool b2))⟩, ⟨.bin .add 3, [op 4, vp (ii 1)], .val (op 12)⟩]
def t_restB : List Ent := [⟨.bin .add 3, [op 10, vp (ii 10000)], .val (op 11)⟩]
theorem rest_one {x y z : Value} (hx : x.oneCell' = true) (hy : y.oneCell' = true) (hz : z.oneCell' = true) (ds es : List Nat) (i b dd : Nat) : ∀ v ∈ vl_rest x y z ds es i b dd, v.oneCell' = true :=
  one_cons hx (one_cons hy (one_cons hz (one_cons rfl (one_cons rfl (one_cons rfl (one_cons (ptrAt_one _ _) (one_cons rfl (one_cons rfl (one_cons rfl (one_cons rfl (one_cons rfl (one_cons rfl (one_cons rfl one_nil)))))))))))))
theorem rest_T {x y z : Value} {ds es : List Nat} {w : World} (hx : Dg w x ds) (hy : Dg w y es) (hds : Dig ds) (hes : Dig es) {i b dd : Nat} (hb : b ≤ 1) (hi : i < ds.length) (hl : ds.length < 1000000000) {b2 : Bool} (h2 : decide (ds.getD i 0 < es.getD i 0 + b) = b2) : ∀ t ∈ t_rest b2, t.Valid (CV 36 (vl_rest x y z ds es i b dd) w) :=
  have hd := hds i
  have he := hes i
  forall_cons (e_len und_nat (pdW rfl hx) (rvW rfl)) (forall_cons (e_lss (pvW rfl) (pvW rfl) (decide_eq_true (by omega))) (forall_cons (e_ixW und_nat elem_nat (pvW rfl) hx (pvW rfl) hi (rvW rfl)) (forall_cons (e_ldW (pvW rfl) hx hi (rvW rfl)) (forall_cons (e_digit (i := i) (pdW rfl hy) (pvW rfl) (rvW rfl))
    (forall_cons (e_sub rfl (pvW rfl) (pvW rfl) (rvW rfl) (by omega)) (forall_cons (e_sub rfl (pvW rfl) (pvW rfl) (rvW rfl) (by omega)) (forall_cons (e_lss (pvW rfl) pvl (by rw [← h2]; congr 1; apply propext; constructor <;> intro h <;> omega)) (forall_cons (e_add (by omega) (pvW rfl) pvl (rvW rfl) (by omega)) forall_nil))))))))
noncomputable def b_rest : Code := bodyOf Tryz.f95
noncomputable def l_rest : Code := inner (inner (seqR (seqL (seqR (seqR (seqR b_rest))))))
theorem rest_ok (x y : Value) (ds es : List Nat) (w : World) (hx : Dg w x ds) (hy : Dg w y es) (hds : Dig ds) (hes : Dig es) (hl1 : ds.length < 100000000) (hl2 : es.length ≤ ds.length) (hle : nat es ≤ nat ds) : Calls Tryz.prog 95 #[x, y] w (fun e w' => ∃ v, e = .returned v ∧ Dg w' v (digs (nat ds - nat es)) ∧ (∀ k, v.ownBlock = some k → w.heap.size ≤ k) ∧ Below w.heap.size w w') := by
  refine calls_v2 (nt := 36) (f := 95) Tryz.func95 (c := .seq (seqL b_rest) (.seq (seqL (seqR b_rest)) (.seq (seqL (seqR (seqR b_rest))) (.seq (.seq (seqL (seqL (seqR (seqR (seqR b_rest))))) (.block 0 (.loop l_rest))) (seqR (seqR (seqR (seqR b_rest)))))))) rfl rfl rfl x y (fun a hs => ?_)
  have one2 : ∀ v ∈ [x, y], v.oneCell' = true := one_cons hx.one (one_cons hy.one one_nil)
  refine wp_seq (seg_v (T := []) [(0, 0), (1, 1)] [(0, 0), (1, 1)] (n := 30) (x := .normal) one2 forall_nil hs (by kernel_rfl) rfl rfl (fun a1 w1 hs hb1 => ?_))
  refine wp_seq ?_
  show (Code.region 1 [_, _].toArray false).wp Tryz.prog _ _ _
  refine empty_v [(0, 0), (1, 1)] (d := 9) (t := 5) hs rfl rfl rfl rfl rfl rfl rfl rfl rfl rfl (B := w.heap.size) hb1.size (fun z a2 w2 hz hown hs hb2 => ?_)
  have hb2 := hb1.trans (hb2.mono hb1.size)
  have hs : St' 36 [x, y, z] [(5, 2), (0, 0), (1, 1)] a2 := ⟨hs.defers, hs.size, hz, hs.sl⟩
  have one3 : ∀ v ∈ [x, y, z], v.oneCell' = true := one_cons hx.one (one_cons hy.one (one_cons hown.one one_nil))
  refine wp_seq (seg_vl (T := []) [(5, 2), (0, 0), (1, 1)] [(5, 2), (0, 0), (1, 1)] [(6, ii 0)] (n := 30) (x := .normal) one3 forall_nil hs (by kernel_rfl) rfl rfl (fun a3 w3 hs hl6 hb3 => ?_))
  have hs : St' 36 [x, y, z, ii 0] [(5, 2), (0, 0), (1, 1), (6, 3)] a3 := ⟨hs.defers, hs.size, hs.sl.1, hs.sl.2.1, hs.sl.2.2.1, hl6.1, trivial⟩
  have one4 : ∀ v ∈ [x, y, z, ii 0], v.oneCell' = true := one_cons hx.one (one_cons hy.one (one_cons hown.one (one_cons rfl one_nil)))
  refine wp_seq (wp_seq (seg_vl (T := []) [(5, 2), (0, 0), (1, 1), (6, 3)] [(5, 2), (0, 0), (1, 1), (6, 3)] [(7, ii 0)] (n := 30) (x := .normal) one4 forall_nil hs (by kernel_rfl) rfl rfl (fun a4 w4 hs hl7 hb4 => ?_)))
  have hown := (hown.below hb3).below hb4
  have hb4 := (hb2.trans (hb3.mono hb2.size)).trans (hb4.mono (Nat.le_trans hb2.size hb3.size))
  have hs : St' 36 (vl_rest x y z ds es 0 0 0) [(0, 0), (1, 1), (5, 2), (6, 3), (7, 4)] a4 := ⟨hs.defers, hs.size, hs.sl.2.1, hs.sl.2.2.1, hs.sl.1, hs.sl.2.2.2.1, hl7.1, trivial⟩
  refine while_is (Θ := Nat × Nat) (fun θ a w1 => ∃ z l, θ.2 ≤ 1 ∧ θ.1 ≤ ds.length ∧ l.length = θ.1 ∧ (∀ d ∈ l, d < 10000) ∧ nat ds + 10000 ^ θ.1 * (nat (es.drop θ.1) + θ.2) = nat es + nat l + 10000 ^ θ.1 * nat (ds.drop θ.1) ∧ St' 36 (vl_rest x y z ds es θ.1 θ.2 0) [(0, 0), (1, 1), (5, 2), (6, 3), (7, 4)] a ∧ Own w.heap.size w1 z l ∧ Below w.heap.size w w1) (fun θ => ds.length - θ.1) ?_ (0, 0) ⟨z, [], by simp, Nat.zero_le _, rfl, by simp, by simp [nat]; omega, hs, hown, hb4⟩
  rintro ⟨i, b⟩ a w1 ⟨z, l, hc, hi, hll, hdl, hnat, hs, hown, hb⟩
  have hc : b ≤ 1 := hc
  have hll : l.length = i := hll
  have hx1 := hx.below hb (Nat.le_refl _)
  have hy1 := hy.below hb (Nat.le_refl _)
  by_cases hend : ds.length ≤ i
  · have one := rest_one hx.one hy.one hown.one ds es i b 0
    have hT : ∀ t ∈ t_rest0, t.Valid (CV 36 (vl_rest x y z ds es i b 0) w1) := forall_cons (e_len und_nat (pdW rfl hx1) (rvW rfl)) (forall_cons (e_lss (pvW rfl) (pvW rfl) (decide_eq_false (by omega))) forall_nil)
    refine wp_seq (seg_v [(0, 0), (1, 1), (5, 2), (6, 3), (7, 4)] [(5, 2)] (n := 30) (x := .exit 0) one hT hs (by kernel_rfl) rfl rfl (fun a5 w5 hs hb5 => ?_))
    have hown := hown.below hb5
    have hb := hb.trans (hb5.mono hb.size)
    have hs : St' 36 [z] [(5, 0)] a5 := ⟨hs.defers, hs.size, hs.sl⟩
    have hC : (mkC [1, 1] [false, false] [] 36 [clW z, clF w.heap.size (strip l)] w5).Ok := mkC_ok (oks_cons (clW_ok hown.one) (oks_cons (clF_ok noT _ _) oks_nil)) rfl rfl
    have hT : ∀ t ∈ [(⟨.call 123, [op 0], .val (op 1)⟩ : Ent)], t.Valid (mkC [1, 1] [false, false] [] 36 [clW z, clF w.heap.size (strip l)] w5) := forall_cons (e_trimF (pfW rfl hown.dg (fun k hk => (hown.lt k hk).1)) (rf rfl)) forall_nil
    refine seg_vf (vl := [z]) [(5, 0)] [] (t := 4) (ds := strip l) hC hT hs 1 (fun i hi => ?_) rfl (n := 30) (x := .ret) (by kernel_rfl) rfl rfl (fun a6 w6 v h4 hv hfr hs hb6 => ret_v rfl hs.defers h4 ⟨v, rfl, ?_, hfr, hb.trans (hb6.mono hb.size)⟩)
    · have hi : i < 1 := hi
      obtain rfl : i = 0 := by omega
      rfl
    · have hnl := nat_bound hdl
      rw [hll] at hnl
      rw [nat_drop_end (by show es.length ≤ i; omega), nat_drop_end (by show ds.length ≤ i; omega)] at hnat
      have hnat : nat ds + 10000 ^ i * (0 + b) = nat es + nat l + 10000 ^ i * 0 := hnat
      have hb0 : b = 0 := by
        rcases Nat.lt_or_ge b 1 with h | h
        · omega
        · have : b = 1 := by omega
          subst this
          omega
      subst hb0
      rw [show nat ds - nat es = nat l by omega, digs_nat hdl]
      exact hv
  · have hi : i < ds.length := by omega
    have hdi := hds i
    have hei := hes i
    have hl9 : ds.length < 1000000000 := by omega
    refine wp_seq (seg_v [(0, 0), (1, 1), (5, 2), (6, 3), (7, 4)] [(0, 0), (1, 1), (5, 2), (6, 3), (7, 4)] (n := 30) (x := .normal) (rest_one hx.one hy.one hown.one ds es i b 0) (rest_T (z := z) hx1 hy1 hds hes hc hi hl9 rfl) hs (by kernel_rfl) rfl rfl (fun a5 w5 hs hb5 => ?_))
    have hown := hown.below hb5
    have hb := hb.trans (hb5.mono hb.size)
    refine wp_seq (wp_block (wp_seq (seg_v [(0, 0), (1, 1), (5, 2), (6, 3), (7, 4)] [(0, 0), (1, 1), (5, 2), (7, 4), (8, 10)] (n := 30) (x := .normal) (rest_one hx.one hy.one hown.one ds es i b 0) (rest_T (z := z) (hx.below hb (Nat.le_refl _)) (hy.below hb (Nat.le_refl _)) hds hes hc hi hl9 rfl) hs (by kernel_rfl) rfl rfl (fun a6 w6 hs hb6 => ?_))))
    have hown := hown.below hb6
    have hb := hb.trans (hb6.mono hb.size)
    refine wp_seq (seg_vl (T := []) [(0, 0), (1, 1), (5, 2), (7, 4), (8, 10)] [(0, 0), (1, 1), (5, 2), (7, 4), (8, 10)] [(6, ii 0)] (n := 30) (x := .normal) (rest_one hx.one hy.one hown.one ds es i b 0) forall_nil hs (by kernel_rfl) rfl rfl (fun a7 w7 hs hl6 hb7 => ?_))
    have hown := hown.below hb7
    have hb := hb.trans (hb7.mono hb.size)
    have key : ∀ (Q' : Exit → Act → World → Prop), (∀ bn dd a' w', bn ≤ 1 → es.getD i 0 + b + dd = ds.getD i 0 + 10000 * bn → dd < 10000 → St' 36 [x, y, z, ii ((bn : Nat) : Int), ii (i : Int), ii ((dd : Nat) : Int), ii ((i + 1 : Nat) : Int)] [(0, 0), (1, 1), (5, 2), (6, 3), (7, 4), (8, 5)] a' → Below w7.heap.size w7 w' → Q' .normal a' w') → (seqL (seqR (seqR (inner (seqL (seqR l_rest)))))).wp Tryz.prog Q' a7 w7 := by
      intro Q' hQ
      by_cases hneg : ds.getD i 0 < es.getD i 0 + b
      · obtain ⟨dd, hdd⟩ : ∃ dd, es.getD i 0 + b + dd = ds.getD i 0 + 10000 := ⟨ds.getD i 0 + 10000 - (es.getD i 0 + b), by omega⟩
        have hs : St' 36 (vl_rest x y z ds es i b dd) [(0, 0), (1, 1), (5, 2), (7, 4), (8, 10)] a7 := ⟨hs.defers, hs.size, hs.sl⟩
        have hT : ∀ t ∈ t_restB ++ t_rest true, t.Valid (CV 36 (vl_rest x y z ds es i b dd) w7) := by
          intro t ht
          rcases List.mem_append.1 ht with h | h
          · exact (forall_cons (P := fun t => Ent.Valid (CV 36 (vl_rest x y z ds es i b dd) w7) t) (e_add (u := (dd : Int)) (by omega) (pvW rfl) pvl (rvW rfl) (by omega)) forall_nil) t h
          · exact rest_T (z := z) (hx.below hb (Nat.le_refl _)) (hy.below hb (Nat.le_refl _)) hds hes hc hi hl9 (decide_eq_true hneg) t h
        refine seg_vl [(0, 0), (1, 1), (5, 2), (7, 4), (8, 10)] [(0, 0), (1, 1), (5, 2), (7, 4), (8, 11)] [(6, ii 1)] (n := 30) (x := .normal) (rest_one hx.one hy.one hown.one ds es i b dd) hT hs (by kernel_rfl) rfl rfl (fun a8 w8 hs hl6 hb8 => ?_)
        exact hQ 1 dd a8 w8 (by omega) (by omega) (by omega) ⟨hs.defers, hs.size, hs.sl.1, hs.sl.2.1, hs.sl.2.2.1, hl6.1, hs.sl.2.2.2.1, hs.sl.2.2.2.2.1, trivial⟩ hb8
      · obtain ⟨dd, hdd⟩ : ∃ dd, es.getD i 0 + b + dd = ds.getD i 0 := ⟨ds.getD i 0 - (es.getD i 0 + b), by omega⟩
        have hs : St' 36 (vl_rest x y z ds es i b dd) [(0, 0), (1, 1), (5, 2), (7, 4), (8, 10), (6, 13)] a7 := ⟨hs.defers, hs.size, hs.sl.1, hs.sl.2.1, hs.sl.2.2.1, hs.sl.2.2.2.1, hs.sl.2.2.2.2.1, hl6.1, trivial⟩
        refine seg_v [(0, 0), (1, 1), (5, 2), (7, 4), (8, 10), (6, 13)] [(0, 0), (1, 1), (5, 2), (7, 4), (8, 10), (6, 13)] (n := 30) (x := .normal) (rest_one hx.one hy.one hown.one ds es i b dd) (rest_T (z := z) (hx.below hb (Nat.le_refl _)) (hy.below hb (Nat.le_refl _)) hds hes hc hi hl9 (decide_eq_false hneg)) hs (by kernel_rfl) rfl rfl (fun a8 w8 hs hb8 => ?_)
        have h8 : a8.tmps[8]? = some (ii (dd : Int)) := by
          have : a8.tmps[8]? = some (ii (((ds.getD i 0 : Nat) : Int) - ((es.getD i 0 : Nat) : Int) - (b : Int))) := hs.sl.2.2.2.2.1
          rw [this, show ((ds.getD i 0 : Nat) : Int) - ((es.getD i 0 : Nat) : Int) - (b : Int) = (dd : Int) by omega]
        exact hQ 0 dd a8 w8 (by omega) (by omega) (by omega) ⟨hs.defers, hs.size, hs.sl.1, hs.sl.2.1, hs.sl.2.2.1, hs.sl.2.2.2.2.2.1, hs.sl.2.2.2.1, h8, trivial⟩ hb8
    refine wp_seq (key _ (fun bn dd a8 w8 hbn hdd hdl9 hs hb8 => ?_))
    have hown := hown.below hb8
    have hb := hb.trans (hb8.mono hb.size)
    have one : ∀ z : Value, z.oneCell' = true → ∀ v ∈ [x, y, z, ii ((bn : Nat) : Int), ii (i : Int), ii ((dd : Nat) : Int), ii ((i + 1 : Nat) : Int)], v.oneCell' = true := fun z hz => one_cons hx.one (one_cons hy.one (one_cons hz (one_cons rfl (one_cons rfl (one_cons rfl (one_cons rfl one_nil))))))
    show (Code.region 10 (opsOf (seqR (seqR (seqR (inner (seqL (seqR l_rest))))))).toArray false).wp Tryz.prog _ _ _
    refine push_v (T := []) [(0, 0), (1, 1), (5, 2), (6, 3), (7, 4), (8, 5)] [(0, 0), (1, 1), (6, 3), (7, 4)] 3 (s := 30) (x := 32) (d := 33) (t := 5) (cd := 5) (z := z) (ds := l) (dg := dd) (one z hown.one) forall_nil hs 2 (by kernel_rfl) rfl rfl rfl rfl rfl rfl rfl rfl rfl rfl rfl rfl rfl rfl rfl hown hb.size (by omega) (fun z' a9 w9 h5 hown hs hb9 => ?_)
    have hb := hb.trans hb9
    have hs : St' 36 [x, y, z', ii ((bn : Nat) : Int), ii (i : Int), ii ((dd : Nat) : Int), ii ((i + 1 : Nat) : Int)] [(0, 0), (1, 1), (5, 2), (6, 3), (7, 4)] a9 := ⟨hs.defers, hs.size, hs.sl.1, hs.sl.2.1, h5, hs.sl.2.2⟩
    show (seqR (seqR l_rest)).wp Tryz.prog _ _ _
    have hT : ∀ t ∈ [(⟨.bin .add 3, [op 4, vp (ii 1)], .val (op 6)⟩ : Ent)], t.Valid (CV 36 [x, y, z', ii ((bn : Nat) : Int), ii (i : Int), ii ((dd : Nat) : Int), ii ((i + 1 : Nat) : Int)] w9) := forall_cons (e_add (by omega) (pvW rfl) pvl (rvW rfl) (by omega)) forall_nil
    refine seg_v [(0, 0), (1, 1), (5, 2), (6, 3), (7, 4)] [(0, 0), (1, 1), (5, 2), (6, 3), (7, 6)] (n := 30) (x := .normal) (one z' hown.one) hT hs (by kernel_rfl) rfl rfl (fun a10 w10 hs hb10 => ?_)
    have hown := hown.below hb10
    have hb := hb.trans (hb10.mono hb.size)
    refine ⟨(i + 1, bn), ⟨z', l ++ [dd], hbn, ?_, ?_, ?_, ?_, ⟨hs.defers, hs.size, hs.sl⟩, hown, hb⟩, ?_⟩
    · show i + 1 ≤ ds.length
      omega
    · simp [hll]
    · intro d hd
      rcases List.mem_append.1 hd with h | h
      · exact hdl d h
      · have : d = dd := by simpa using h
        omega
    · have hnat : nat ds + 10000 ^ i * (nat (es.drop i) + b) = nat es + nat l + 10000 ^ i * nat (ds.drop i) := hnat
      show nat ds + 10000 ^ (i + 1) * (nat (es.drop (i + 1)) + bn) = nat es + nat (l ++ [dd]) + 10000 ^ (i + 1) * nat (ds.drop (i + 1))
      rw [nat_drop ds i, nat_drop es i] at hnat
      rw [nat_snoc, hll]
      generalize nat (ds.drop (i + 1)) = da at hnat ⊢
      generalize nat (es.drop (i + 1)) = ea at hnat ⊢
      have e1 : 10000 ^ i * (es.getD i 0 + 10000 * ea + b) + 10000 ^ i * dd = 10000 ^ i * ds.getD i 0 + 10000 ^ (i + 1) * (ea + bn) := by
        rw [Nat.pow_succ, Nat.mul_assoc, ← Nat.mul_add, ← Nat.mul_add]
        congr 1
        omega
      have e2 : 10000 ^ i * (ds.getD i 0 + 10000 * da) = 10000 ^ i * ds.getD i 0 + 10000 ^ (i + 1) * da := by
        rw [Nat.pow_succ, Nat.mul_assoc, ← Nat.mul_add]
      omega
    · show ds.length - (i + 1) < ds.length - i
      omega
end Sym
open Go Go.RowKit Go.Proofs Lim
namespace Sym
section
variable {nt : Nat} {vl : List Value} {w : World} {a : Act} {T : List Ent} {Q : Exit → Act → World → Prop}
theorem info_int : ∃ i, Tryz.prog.info? 3 = some i ∧ i.zero = some (ii 0) ∧ i.size = 1 ∧ i.bytes = 8 := by
  have h : (Tryz.prog.info? 3).map (fun i => (i.zero, i.size, i.bytes)) = some (some (ii 0), 1, 8) := by kernel_rfl
  obtain ⟨i, h1, h2⟩ := Option.map_eq_some_iff.1 h
  simp only [Prod.mk.injEq] at h2
  exact ⟨i, h1, h2.1, h2.2.1, h2.2.2⟩
theorem make_v (pre post : List (Nat × Nat)) {id : Nat} {l : List Oper} (i : Nat) {om os : Oper} {s d t B n : Nat} (h1 : ∀ v ∈ vl, v.oneCell' = true) (hT : ∀ t ∈ T, t.Valid (CV nt vl w)) (hs : St' nt vl pre a) (cs : Nat)
    (h : opsB (CV nt vl w).toStat T (l.take i) (itemsOf pre) (itemsOf ((s, cs) :: post)) = true) (hl : l.drop i = [om, os]) (hg : om.guard = none) (hg' : os.guard = none)
    (ho : om.op = .makeSlice 31 (.tmp s) (.tmp s)) (hd : om.dst = some d) (ho' : os.op = .assign (.tmp d)) (hd' : os.dst = some t)
    (hcs : vl[cs]? = some (ii (n : Int))) (hlim : Nat.blt d nt = true) (hlim' : Nat.blt t nt = true) (hap : apartFrom post d = true) (hap' : apartFrom post t = true)
    (hi : inVl pre vl.length = true) (hi' : inVl ((s, cs) :: post) vl.length = true) (hB : B ≤ w.heap.size) (hn : n < 1000000000)
    (hQ : ∀ z' a' w', a'.tmps[t]? = some z' → Own B w' z' (List.replicate n 0) → St' nt vl post a' → Below B w w' → Q .normal a' w') : (Code.region id l.toArray false).wp Tryz.prog Q a w := by
  refine wp_region_lit ?_
  rw [show wpList Tryz.prog l.toArray Q l a w = wpList Tryz.prog l.toArray Q (l.take i ++ l.drop i) a w by rw [List.take_append_drop], hl]
  refine ops_is (CV_ok h1) hT h (hs.at hi) (fun a2 w2 hA => ?_)
  have hit := hA.items
  rw [← List.append_nil (itemsOf ((s, cs) :: post))] at hit
  obtain ⟨⟨sz, hsl⟩, _⟩ := items_sl hi' hit
  have sz : a2.tmps[s]? = some (ii (n : Int)) := by rw [sz, List.getD, hcs]; rfl
  have hB2 : B ≤ w2.heap.size := Nat.le_trans hB hA.below.size
  have hev : a2.eval (.tmp s) = ii (n : Int) := by simp [Act.eval, Array.getD_eq_getD_getElem?, sz]
  obtain ⟨inf, q1, q2, q3, q4⟩ := info_int
  refine wpList_make_full w2 hg (.tmp s) (.tmp s) 31 ho B 3 inf (ii 0) 1 (by kernel_rfl) q1 q2 q3 .i64 .i64 n n n hev hev rfl rfl (by rw [q4]; omega) (by simp only [maxLen]; omega) hB2 (fun w3 hown hgr => ?_)
  generalize Value.slice (some ⟨w2.heap.size, 0, none⟩) n n = z' at hown ⊢
  rw [hd]
  refine wpList_plain hg' (fun K hK => ?_)
  have hsz : d < a2.tmps.size := by
    have : d < nt := by simpa using hlim
    rw [hA.size]; exact this
  have hst : t < (a2.put (some d) z').tmps.size := by
    have : t < nt := by simpa using hlim'
    rw [put_size, hA.size]; exact this
  have hev : (a2.put (some d) z').eval (.tmp d) = z' := by simp [Act.eval, Array.getD_eq_getD_getElem?, put_self hsz]
  have hw : (execOp (a2.put (some d) z').eval os).run (CV nt vl w).P w3 = .ok (.value z') w3 := by simp only [execOp, ho', hev]; rfl
  refine wp_of_value hw (hK _ _ ?_)
  rw [hd']
  have hown' : Own B w3 z' (List.replicate n 0) := by
    have e : (madeCells (ii 0).cells (n * 1)).toList = (List.replicate n 0).map (fun d : Nat => ii (d : Int)) := by
      rw [Nat.mul_one, List.map_replicate]
      exact toList_madeCells_one _ n
    rw [e] at hown
    show w3.ownsRow B _ 1 z' (List.replicate n 0).length _
    rw [List.length_replicate]
    exact hown
  refine hQ z' _ w3 (put_self hst) hown' ⟨(put_defers _ _ _).trans ((put_defers _ _ _).trans hA.defers), (put_size _ _ _).trans ((put_size _ _ _).trans hA.size), Sl.put hap' (Sl.put hap hsl)⟩ ?_
  exact (hA.below.mono hB).trans ⟨hgr.os, hgr.tape, hgr.output, hgr.size, fun i hi => hgr.block i (by omega) (by simp)⟩
theorem Dg.grown {w w' : World} {row : Option Nat} {v : Value} {ds : List Nat} (h : Dg w v ds) (hg : w.grownBy w' row) (hne : ∀ k, v.ownBlock = some k → some k ≠ row) : Dg w' v ds := by
  obtain ⟨ao, cap, rfl, h1, h2, h3⟩ := h
  refine ⟨ao, cap, rfl, h1, h2, fun hn => ?_⟩
  obtain ⟨b, off, rfl, ⟨cs, fr, hc⟩, hr⟩ := h3 hn
  have hb : w'.heap[b]? = w.heap[b]? := hg.block b (Array.getElem?_eq_some_iff.1 hc).1 (hne b rfl)
  exact ⟨b, off, rfl, ⟨cs, fr, hb.trans hc⟩, fun i hi => (World.cell?_of_block (a := ⟨b, off + i, none⟩) hb).trans (hr i hi)⟩
theorem store_v (pre post : List (Nat × Nat)) {id : Nat} {l : List Oper} (i : Nat) {os : Oper} {s t B cp cv : Nat} {z : Value} {ds : List Nat} {j d : Nat} (h1 : ∀ v ∈ vl, v.oneCell' = true) (hT : ∀ t ∈ T, t.Valid (CV nt vl w)) (hs : St' nt vl pre a)
    (h : opsB (CV nt vl w).toStat T (l.take i) (itemsOf pre) (itemsOf ((s, cp) :: (t, cv) :: post)) = true) (hl : l.drop i = [os]) (hg : os.guard = none)
    (ho : os.op = .store 3 (.tmp s) (.tmp t)) (hd : os.dst = none)
    (hcp : vl[cp]? = some (ptrAt z j)) (hcv : vl[cv]? = some (ii (d : Int)))
    (hi : inVl pre vl.length = true) (hi' : inVl ((s, cp) :: (t, cv) :: post) vl.length = true) (hown : Own B w z ds) (hB : B ≤ w.heap.size) (hj : j < ds.length)
    (hQ : ∀ a' w', Own B w' z (ds.set j d) → St' nt vl post a' → Below B w w' → (∀ v rs, Dg w v rs → (∀ k, v.ownBlock = some k → some k ≠ z.ownBlock) → Dg w' v rs) → Q .normal a' w') : (Code.region id l.toArray false).wp Tryz.prog Q a w := by
  refine wp_region_lit ?_
  rw [show wpList Tryz.prog l.toArray Q l a w = wpList Tryz.prog l.toArray Q (l.take i ++ l.drop i) a w by rw [List.take_append_drop], hl]
  refine ops_is (CV_ok h1) hT h (hs.at hi) (fun a2 w2 hA => ?_)
  have hit := hA.items
  rw [← List.append_nil (itemsOf ((s, cp) :: (t, cv) :: post))] at hit
  obtain ⟨⟨ss, st, hsl⟩, _⟩ := items_sl hi' hit
  have hown := hown.below hA.below
  have hown0 := hown
  rcases hown.2 with ⟨rfl, h3⟩ | ⟨g, cap, cur, rfl, hb, hgc, hn, hc, hsz, ht⟩
  · omega
  have ss : a2.eval (.tmp s) = .pointer (some ⟨g, j, none⟩) := by
    have : a2.tmps[s]? = some (ptrAt (.slice (some ⟨g, 0, none⟩) ds.length cap) j) := by rw [ss, List.getD, hcp]; rfl
    rw [show ptrAt (.slice (some ⟨g, 0, none⟩) ds.length cap) j = .pointer (some ⟨g, 0 + j, none⟩) from rfl, Nat.zero_add] at this
    simp [Act.eval, Array.getD_eq_getD_getElem?, this]
  have st : a2.eval (.tmp t) = ii (d : Int) := by
    have : a2.tmps[t]? = some (ii (d : Int)) := by rw [st, List.getD, hcv]; rfl
    simp [Act.eval, Array.getD_eq_getD_getElem?, this]
  obtain ⟨h5, hgr⟩ := hown0.stored j (ii (d : Int))
  refine wpList_plain hg (fun K hK => ?_)
  obtain ⟨u, hu⟩ : ∃ u, w2.cell? ⟨g, j, none⟩ = some u := by
    have : j < cur.size := by omega
    exact ⟨cur[j], by simp [World.cell?, hgc, this]⟩
  have hz := frozen_of_row w2 g j cur 3 hgc
  have hst : (store (⟨g, j, none⟩ : Addr) (ii (d : Int))).run Tryz.prog w2 = .ok () (w2.setCell ⟨g, j, none⟩ (ii (d : Int))) := by
    rw [run_store_int]
    simp [stored, hu, hz]
  have hadd : (⟨g, j, none⟩ : Addr).add 0 = ⟨g, j, none⟩ := by simp [Addr.add]
  have hsv : (storeVar 3 ⟨g, j, none⟩ (ii (d : Int))).run Tryz.prog w2 = .ok () (w2.setCell ⟨g, j, none⟩ (ii (d : Int))) := by
    have hc1 : (ii (d : Int)).cells = #[ii (d : Int)] := rfl
    simp only [storeVar, Sem.run_bind, size_int, Result.andThen_ok, hc1]
    simp only [List.size_toArray, List.length_cons, List.length_nil, ne_eq, not_true_eq_false, if_false, storeCells, hadd, Sem.run_bind, hst, Result.andThen_ok]
    rfl
  have hw : (execOp a2.eval os).run Tryz.prog w2 = .ok .skip (w2.setCell ⟨g, j, none⟩ (ii (d : Int))) := by simp [execOp, ho, ss, st, Instr.storeAt, Instr.sureAddr, hsv]
  unfold Oper.wp
  have hw : (execOp a2.eval os).run (CV nt vl w).P w2 = .ok .skip (w2.setCell ⟨g, j, none⟩ (ii (d : Int))) := hw
  rw [hw]
  refine hK _ _ ?_
  rw [hd]
  have hgB : B ≤ g := hb
  have hown' : Own B (w2.setCell ⟨g, j, none⟩ (ii (d : Int))) (.slice (some ⟨g, 0, none⟩) ds.length cap) (ds.set j d) := by
    show World.ownsRow _ B _ 1 _ (ds.set j d).length ((ds.set j d).map (fun d : Nat => ii (d : Int)))
    rw [List.length_set, List.map_set]
    exact h5
  exact hQ _ _ hown' ⟨hA.defers, hA.size, hsl⟩ ((hA.below.mono hB).trans ⟨hgr.os, hgr.tape, hgr.output, hgr.size, fun i hi => hgr.block i (Nat.lt_of_lt_of_le hi (Nat.le_trans hB hA.below.size)) (fun e => by injection e with e; omega)⟩) (fun v rs hv hne => (hv.below hA.below (Nat.le_refl _)).grown hgr hne)
end
end Sym
open Go Go.RowKit Go.Proofs Lim
namespace Sym
theorem nat_set : ∀ {l : List Nat} {k v : Nat}, k < l.length → nat (l.set k v) + 10000 ^ k * l.getD k 0 = nat l + 10000 ^ k * v
  | [], k, v, h => by simp at h
  | d :: l, 0, v, h => by
    show v + 10000 * nat l + 10000 ^ 0 * d = d + 10000 * nat l + 10000 ^ 0 * v
    simp; omega
  | d :: l, k + 1, v, h => by
    have := nat_set (l := l) (k := k) (v := v) (by simpa using h)
    show d + 10000 * nat (l.set k v) + 10000 ^ (k + 1) * l.getD k 0 = d + 10000 * nat l + 10000 ^ (k + 1) * v
    rw [Nat.pow_succ, Nat.mul_comm (10000 ^ k) 10000, Nat.mul_assoc, Nat.mul_assoc]
    omega
theorem getD_out {ds : List Nat} {j : Nat} (h : ds.length ≤ j) : ds.getD j 0 = 0 := by rw [List.getD_eq_getElem?_getD, List.getElem?_eq_none h]; rfl
theorem nat_take (es : List Nat) (j : Nat) : nat (es.take (j + 1)) = nat (es.take j) + 10000 ^ j * es.getD j 0 := by
  rcases Nat.lt_or_ge j es.length with h | h
  · rw [take_last h, nat_snoc, List.length_take, Nat.min_eq_left (by omega)]
  · rw [getD_out h, List.take_of_length_le h, List.take_of_length_le (by omega)]
    simp
theorem getD_setN {l : List Nat} {k v j : Nat} (h : j ≠ k) : (l.set k v).getD j 0 = l.getD j 0 := by
  simp [List.getD, List.getElem?_set, Ne.symm h]
theorem mem_set_lt {l : List Nat} {k v : Nat} (h : ∀ d ∈ l, d < 10000) (hv : v < 10000) : ∀ d ∈ l.set k v, d < 10000 := by
  intro d hd
  rcases List.mem_or_eq_of_mem_set hd with h1 | h1
  · exact h d h1
  · omega
theorem dig_of {l : List Nat} (h : ∀ d ∈ l, d < 10000) : Dig l := fun i => by
  rcases Nat.lt_or_ge i l.length with hi | hi
  · have : l.getD i 0 = l[i] := by simp [List.getD, hi]
    rw [this]
    exact h _ (List.getElem_mem hi)
  · rw [getD_out hi]; omega
abbrev vl_prod (x y z : Value) (ds es l : List Nat) (i c j : Nat) : List Value := [x, y, z, ii (i : Int), ii (c : Int), ii (j : Int), ii ((i + j : Nat) : Int), ptrAt z (i + j), ii ((l.getD (i + j) 0 : Nat) : Int), ptrAt x i, ii ((ds.getD i 0 : Nat) : Int), ii ((es.getD j 0 : Nat) : Int), ii ((ds.getD i 0 * es.getD j 0 : Nat) : Int), ii ((l.getD (i + j) 0 + ds.getD i 0 * es.getD j 0 : Nat) : Int), ii ((l.getD (i + j) 0 + ds.getD i 0 * es.getD j 0 + c : Nat) : Int), ii (((l.getD (i + j) 0 + ds.getD i 0 * es.getD j 0 + c) % 10000 : Nat) : Int), ii (((l.getD (i + j) 0 + ds.getD i 0 * es.getD j 0 + c) / 10000 : Nat) : Int), ii ((j + 1 : Nat) : Int), ii (es.length : Int)]
theorem prod_one {x y z : Value} (hx : x.oneCell' = true) (hy : y.oneCell' = true) (hz : z.oneCell' = true) (ds es l : List Nat) (i c j : Nat) : ∀ v ∈ vl_prod x y z ds es l i c j, v.oneCell' = true :=
  one_cons hx (one_cons hy (one_cons hz (one_cons rfl (one_cons rfl (one_cons rfl (one_cons rfl (one_cons (ptrAt_one _ _) (one_cons rfl (one_cons (ptrAt_one _ _) (one_cons rfl (one_cons rfl (one_cons rfl (one_cons rfl (one_cons rfl (one_cons rfl (one_cons rfl (one_cons rfl (one_cons rfl one_nil))))))))))))))))))
def t_prodG (b1 b2 : Bool) : List Ent := [⟨.blt .len [31] 3, [op 1], .val (op 18)⟩, ⟨.bin .lss 3, [op 5, op 18], .val (vp (.bool b1))⟩, ⟨.bin .gtr 3, [op 4, vp (ii 0)], .val (vp (.bool b2))⟩]
theorem prod_G {x y z : Value} {ds es l : List Nat} {w : World} (hy : Dg w y es) {i c j : Nat} {b1 b2 : Bool} (h1 : decide (j < es.length) = b1) (h2 : decide (0 < c) = b2) : ∀ t ∈ t_prodG b1 b2, t.Valid (CV 60 (vl_prod x y z ds es l i c j) w) :=
  forall_cons (e_len und_nat (pdW rfl hy) (rvW rfl)) (forall_cons (e_lss (pvW rfl) (pvW rfl) (by rw [← h1]; simp)) (forall_cons (e_gtr (pvW rfl) pvl (by rw [← h2]; simp)) forall_nil))
def t_prod : List Ent := [⟨.bin .add 3, [op 3, op 5], .val (op 6)⟩, ⟨.ix 31, [op 2, op 6], .val (op 7)⟩, ⟨.ld 3, [op 7], .val (op 8)⟩, ⟨.ix 31, [op 0, op 3], .val (op 9)⟩, ⟨.ld 3, [op 9], .val (op 10)⟩, ⟨.call 127, [op 1, op 5], .val (op 11)⟩, ⟨.bin .mul 3, [op 10, op 11], .val (op 12)⟩, ⟨.bin .add 3, [op 8, op 12], .val (op 13)⟩, ⟨.bin .add 3, [op 13, op 4], .val (op 14)⟩,
  ⟨.bin .rem 3, [op 14, vp (ii 10000)], .val (op 15)⟩, ⟨.bin .quo 3, [op 14, vp (ii 10000)], .val (op 16)⟩, ⟨.bin .add 3, [op 5, vp (ii 1)], .val (op 17)⟩]
theorem sum_bound {a b c d : Nat} (ha : a < 10000) (hb : b < 10000) (hc : c < 10000) (hd : d < 10000) : a + b * c + d < 100000000 := by
  have : b * c ≤ 9999 * 9999 := Nat.mul_le_mul (by omega) (by omega)
  omega
theorem prod_T {x y z : Value} {ds es l : List Nat} {w : World} (hx : Dg w x ds) (hy : Dg w y es) (hz : Dg w z l) (hds : Dig ds) (hes : Dig es) (hl : Dig l) {i c j : Nat} (hc : c < 10000) (hi : i < ds.length) (hij : i + j < l.length) (hll : l.length < 1000000000) : ∀ t ∈ t_prod, t.Valid (CV 60 (vl_prod x y z ds es l i c j) w) :=
  have hs := sum_bound (hl (i + j)) (hds i) (hes j) hc
  have h0 : ds.getD i 0 * es.getD j 0 < 100000000 := by omega
  forall_cons (e_add (by omega) (pvW rfl) (pvW rfl) (rvW rfl) (by omega)) (forall_cons (e_ixW und_nat elem_nat (pvW rfl) hz (pvW rfl) hij (rvW rfl)) (forall_cons (e_ldW (pvW rfl) hz hij (rvW rfl)) (forall_cons (e_ixW und_nat elem_nat (pvW rfl) hx (pvW rfl) hi (rvW rfl)) (forall_cons (e_ldW (pvW rfl) hx hi (rvW rfl)) (forall_cons (e_digit (i := j) (pdW rfl hy) (pvW rfl) (rvW rfl))
    (forall_cons (e_mul (by rw [Int.natCast_mul]) (pvW rfl) (pvW rfl) (rvW rfl) (by omega)) (forall_cons (e_add (by omega) (pvW rfl) (pvW rfl) (rvW rfl) (by omega)) (forall_cons (e_add (by omega) (pvW rfl) (pvW rfl) (rvW rfl) (by omega))
      (forall_cons (e_rem (k := .i64) (n := 10000) (pvW rfl) pvl (rvW rfl) (by decide)) (forall_cons (e_quo (k := .i64) (n := 10000) (pvW rfl) pvl (rvW rfl) (by decide) (by rw [IntKind.wrap_i64]; omega)) (forall_cons (e_add (by omega) (pvW rfl) pvl (rvW rfl) (by omega)) forall_nil)))))))))))
def t_prodE : List Ent := [⟨.bin .quo 3, [op 14, vp (ii 10000)], .val (op 16)⟩, ⟨.bin .add 3, [op 5, vp (ii 1)], .val (op 17)⟩]
theorem prod_E {x y z : Value} {ds es l : List Nat} {w : World} (hds : Dig ds) (hes : Dig es) (hl : Dig l) {i c j : Nat} (hc : c < 10000) (hj : j < 1000000000) : ∀ t ∈ t_prodE, t.Valid (CV 60 (vl_prod x y z ds es l i c j) w) :=
  have hs := sum_bound (hl (i + j)) (hds i) (hes j) hc
  forall_cons (e_quo (k := .i64) (n := 10000) (pvW rfl) pvl (rvW rfl) (by decide) (by rw [IntKind.wrap_i64]; omega)) (forall_cons (e_add (by omega) (pvW rfl) pvl (rvW rfl) (by omega)) forall_nil)
noncomputable def b_prod : Code := bodyOf Tryz.f93
noncomputable def lo_prod : Code := inner (inner (seqR (seqL (seqR (seqR b_prod)))))
noncomputable def li_prod : Code := inner (inner (seqR (seqR (inner (seqL (seqR lo_prod))))))
abbrev vl_prodo (x y z : Value) (ds : List Nat) (i : Nat) : List Value := [x, y, z, ii (i : Int), ii (ds.length : Int), ii ((i + 1 : Nat) : Int)]
theorem prod_inner (x y z : Value) (ds es l0 : List Nat) (i B : Nat) (hi : i < ds.length) (hds : Dig ds) (hes : Dig es) (hl1 : ds.length < 100000000) (hl2 : es.length < 100000000) (hl0 : l0.length = ds.length + es.length) (hd0 : ∀ d ∈ l0, d < 10000) (hz0 : ∀ k, i + es.length ≤ k → l0.getD k 0 = 0)
    (a : Act) (w1 : World) (hx : Dg w1 x ds) (hy : Dg w1 y es) (hx0 : ∀ w', Below B w1 w' → Dg w' x ds) (hy0 : ∀ w', Below B w1 w' → Dg w' y es) (hs : St' 60 (vl_prod x y z ds es l0 i 0 0) [(0, 0), (1, 1), (5, 2), (6, 3), (7, 4), (8, 5)] a) (hown : Own B w1 z l0) (hB : B ≤ w1.heap.size) {Q : Exit → Act → World → Prop}
    (hQ : ∀ a' w' l, l.length = ds.length + es.length → (∀ d ∈ l, d < 10000) → (∀ k, i + 1 + es.length ≤ k → l.getD k 0 = 0) → nat l0 + ds.getD i 0 * (10000 ^ i * nat es) = nat l → St' 60 [x, y, z, ii (i : Int)] [(0, 0), (1, 1), (5, 2), (6, 3)] a' → Own B w' z l → Below B w1 w' → Q .normal a' w') :
    (Code.block 2 (.loop li_prod)).wp Tryz.prog Q a w1 := by
  have hx9 := hx.one
  have hy9 := hy.one
  refine while_is (Θ := Nat × Nat) (fun θ a w' => ∃ l, θ.2 < 10000 ∧ (θ.1 ≤ es.length ∨ θ.1 = es.length + 1 ∧ θ.2 = 0) ∧ l.length = ds.length + es.length ∧ (∀ d ∈ l, d < 10000) ∧ (∀ k, i + θ.1 ≤ k → i + es.length ≤ k → l.getD k 0 = 0) ∧ (∀ k, i + es.length + 1 ≤ k → l.getD k 0 = 0) ∧
      nat l0 + ds.getD i 0 * (10000 ^ i * nat (es.take θ.1)) = nat l + θ.2 * 10000 ^ (i + θ.1) ∧ St' 60 (vl_prod x y z ds es l i θ.2 θ.1) [(0, 0), (1, 1), (5, 2), (6, 3), (7, 4), (8, 5)] a ∧ Own B w' z l ∧ Below B w1 w') (fun θ => 2 * (es.length - θ.1) + min θ.2 1) ?_ (0, 0) ⟨l0, by simp, .inl (Nat.zero_le _), hl0, hd0, fun k _ h => hz0 k h, fun k h => hz0 k (by omega), by simp [nat], hs, hown, Below.refl _ _⟩
  rintro ⟨j, c⟩ a w2 ⟨l, hc, hj, hll, hdl, hz1, hz2, hnat, hs, hown, hb⟩
  have hc : c < 10000 := hc
  have hj : j ≤ es.length ∨ j = es.length + 1 ∧ c = 0 := hj
  have hnat : nat l0 + ds.getD i 0 * (10000 ^ i * nat (es.take j)) = nat l + c * 10000 ^ (i + j) := hnat
  have hz1 : ∀ k, i + j ≤ k → i + es.length ≤ k → l.getD k 0 = 0 := hz1
  have hB2 : B ≤ w2.heap.size := Nat.le_trans hB hb.size
  have one := prod_one hx9 hy9 hown.one ds es l i c j
  by_cases hend : ¬ j < es.length ∧ ¬ 0 < c
  · obtain ⟨e1, e2⟩ := hend
    refine wp_seq (seg_v [(0, 0), (1, 1), (5, 2), (6, 3), (7, 4), (8, 5)] [(0, 0), (1, 1), (5, 2), (6, 3)] (n := 30) (x := .exit 2) one (prod_G (hy0 _ hb) (decide_eq_false e1) (decide_eq_false e2)) hs (by kernel_rfl) rfl rfl (fun a5 w5 hs hb5 => ?_))
    refine hQ a5 w5 l hll hdl (fun k h => hz2 k (by omega)) ?_ ⟨hs.defers, hs.size, hs.sl⟩ (hown.below hb5) (hb.trans (hb5.mono hB2))
    rw [List.take_of_length_le (by omega), show c = 0 by omega] at hnat
    omega
  · have key : ∀ (Q' : Exit → Act → World → Prop), (∀ a' w', St' 60 (vl_prod x y z ds es l i c j) [(0, 0), (1, 1), (5, 2), (6, 3), (7, 4), (8, 5)] a' → Below w2.heap.size w2 w' → Q' .normal a' w') → (seqL li_prod).wp Tryz.prog Q' a w2 := by
      intro Q' hQ
      cases h1 : decide (j < es.length) <;> cases h2 : decide (0 < c)
      · exfalso
        exact hend ⟨of_decide_eq_false h1, of_decide_eq_false h2⟩
      all_goals exact seg_v [(0, 0), (1, 1), (5, 2), (6, 3), (7, 4), (8, 5)] [(0, 0), (1, 1), (5, 2), (6, 3), (7, 4), (8, 5)] (n := 30) (x := .normal) one (prod_G (hy0 _ hb) h1 h2) hs (by kernel_rfl) rfl rfl hQ
    have hjl : j ≤ es.length := by omega
    have hij : i + j < l.length := by omega
    have hll9 : l.length < 1000000000 := by omega
    have hdig := dig_of hdl
    refine wp_seq (key _ (fun a5 w5 hs hb5 => ?_))
    have hown := hown.below hb5
    have hb := hb.trans (hb5.mono hB2)
    have hB5 : B ≤ w5.heap.size := Nat.le_trans hB2 hb5.size
    refine wp_seq (wp_block (wp_seq (seg_v [(0, 0), (1, 1), (5, 2), (6, 3), (7, 4), (8, 5)] [(0, 0), (1, 1), (5, 2), (6, 3), (8, 5), (9, 14)] (n := 30) (x := .normal) one (prod_T (hx0 _ hb) (hy0 _ hb) hown.dg hds hes hdig hc hi hij hll9) hs (by kernel_rfl) rfl rfl (fun a6 w6 hs hb6 => ?_))))
    have hown := hown.below hb6
    have hb := hb.trans (hb6.mono hB5)
    have hB6 : B ≤ w6.heap.size := Nat.le_trans hB5 hb6.size
    refine wp_seq ?_
    show (Code.region 10 (opsOf (seqL (seqR (inner (seqL (seqR li_prod)))))).toArray false).wp Tryz.prog _ _ _
    refine store_v [(0, 0), (1, 1), (5, 2), (6, 3), (8, 5), (9, 14)] [(0, 0), (1, 1), (5, 2), (6, 3), (8, 5), (9, 14)] 7 (s := 55) (t := 54) (cp := 7) (cv := 15) (z := z) (ds := l) (j := i + j) (d := (l.getD (i + j) 0 + ds.getD i 0 * es.getD j 0 + c) % 10000) one (prod_T (hx0 _ hb) (hy0 _ hb) hown.dg hds hes hdig hc hi hij hll9) hs (by kernel_rfl) rfl rfl rfl rfl rfl rfl rfl rfl hown hB6 hij (fun a7 w7 hown hs hb7 _ => ?_)
    have hb := hb.trans hb7
    have hB7 : B ≤ w7.heap.size := Nat.le_trans hB6 hb7.size
    have hsb := sum_bound (hdig (i + j)) (hds i) (hes j) hc
    refine seg_v [(0, 0), (1, 1), (5, 2), (6, 3), (8, 5), (9, 14)] [(0, 0), (1, 1), (5, 2), (6, 3), (7, 16), (8, 5)] (n := 30) (x := .normal) one (prod_E hds hes hdig hc (by omega)) hs (by kernel_rfl) rfl rfl (fun a8 w8 hs hb8 => ?_)
    have hown := hown.below hb8
    have hb := hb.trans (hb8.mono hB7)
    have hB8 : B ≤ w8.heap.size := Nat.le_trans hB7 hb8.size
    show (seqR (seqR li_prod)).wp Tryz.prog _ _ _
    refine seg_v [(0, 0), (1, 1), (5, 2), (6, 3), (7, 16), (8, 5)] [(0, 0), (1, 1), (5, 2), (6, 3), (7, 16), (8, 17)] (n := 30) (x := .normal) one (prod_E hds hes hdig hc (by omega)) hs (by kernel_rfl) rfl rfl (fun a9 w9 hs hb9 => ?_)
    have hown := hown.below hb9
    have hb := hb.trans (hb9.mono hB8)
    have hlast : j = es.length → (l.getD (i + j) 0 + ds.getD i 0 * es.getD j 0 + c) / 10000 = 0 := by
      rintro rfl
      rw [hz1 _ (Nat.le_refl _) (Nat.le_refl _), getD_out (Nat.le_refl _)]
      simp; omega
    refine ⟨(j + 1, (l.getD (i + j) 0 + ds.getD i 0 * es.getD j 0 + c) / 10000), ⟨l.set (i + j) ((l.getD (i + j) 0 + ds.getD i 0 * es.getD j 0 + c) % 10000), ?_, ?_, ?_, ?_, ?_, ?_, ?_, ⟨hs.defers, hs.size, hs.sl⟩, hown, hb⟩, ?_⟩
    · show (l.getD (i + j) 0 + ds.getD i 0 * es.getD j 0 + c) / 10000 < 10000
      omega
    · rcases Nat.lt_or_ge j es.length with h | h
      · exact .inl (by show j + 1 ≤ _; omega)
      · exact .inr ⟨by show j + 1 = _; omega, hlast (by omega)⟩
    · rw [List.length_set]; exact hll
    · exact mem_set_lt hdl (by omega)
    · intro k h1 h2
      have h1 : i + (j + 1) ≤ k := h1
      rw [getD_setN (by omega)]
      exact hz1 k (by omega) h2
    · intro k h1
      rw [getD_setN (by omega)]
      exact hz2 k h1
    · show nat l0 + ds.getD i 0 * (10000 ^ i * nat (es.take (j + 1))) = nat (l.set (i + j) _) + (l.getD (i + j) 0 + ds.getD i 0 * es.getD j 0 + c) / 10000 * 10000 ^ (i + (j + 1))
      have h1 := nat_set (v := (l.getD (i + j) 0 + ds.getD i 0 * es.getD j 0 + c) % 10000) hij
      have h2 := Nat.mod_add_div (l.getD (i + j) 0 + ds.getD i 0 * es.getD j 0 + c) 10000
      rw [nat_take]
      generalize (l.getD (i + j) 0 + ds.getD i 0 * es.getD j 0 + c) % 10000 = v at h1 h2 ⊢
      generalize (l.getD (i + j) 0 + ds.getD i 0 * es.getD j 0 + c) / 10000 = q at h2 ⊢
      have e1 : ds.getD i 0 * (10000 ^ i * (nat (es.take j) + 10000 ^ j * es.getD j 0)) = ds.getD i 0 * (10000 ^ i * nat (es.take j)) + 10000 ^ (i + j) * (ds.getD i 0 * es.getD j 0) := by
        rw [Nat.pow_add]
        grind
      have e2 : q * 10000 ^ (i + (j + 1)) = 10000 ^ (i + j) * (10000 * q) := by
        rw [show i + (j + 1) = i + j + 1 by omega, Nat.pow_succ]
        grind
      have e3 : 10000 ^ (i + j) * v + 10000 ^ (i + j) * (10000 * q) = 10000 ^ (i + j) * l.getD (i + j) 0 + 10000 ^ (i + j) * (ds.getD i 0 * es.getD j 0) + c * 10000 ^ (i + j) := by
        rw [← Nat.mul_add, h2, Nat.mul_add, Nat.mul_add, Nat.mul_comm c]
      rw [e1, e2]
      omega
    · show 2 * (es.length - (j + 1)) + min ((l.getD (i + j) 0 + ds.getD i 0 * es.getD j 0 + c) / 10000) 1 < 2 * (es.length - j) + min c 1
      rcases Nat.lt_or_ge j es.length with h | h
      · omega
      · have := hlast (by omega)
        rw [this]
        omega
abbrev vl_prod0 (x y : Value) (ds es : List Nat) : List Value := [x, y, ii (ds.length : Int), ii (es.length : Int), ii ((ds.length + es.length : Nat) : Int)]
theorem nat_zeros : ∀ n : Nat, nat (List.replicate n 0) = 0
  | 0 => rfl
  | n + 1 => by
    show 0 + 10000 * nat (List.replicate n 0) = 0
    rw [nat_zeros n]
theorem product_ok (x y : Value) (ds es : List Nat) (w : World) (hx : Dg w x ds) (hy : Dg w y es) (hds : Dig ds) (hes : Dig es) (hl1 : ds.length < 100000000) (hl2 : es.length < 100000000) : Calls Tryz.prog 93 #[x, y] w (fun e w' => ∃ v, e = .returned v ∧ Dg w' v (digs (nat ds * nat es)) ∧ Below w.heap.size w w') := by
  refine calls_v2 (nt := 60) (f := 93) Tryz.func93 (c := .seq (seqL b_prod) (.seq (seqL (seqR b_prod)) (.seq (.seq (seqL (seqL (seqR (seqR b_prod)))) (.block 0 (.loop lo_prod))) (seqR (seqR (seqR b_prod)))))) rfl rfl rfl x y (fun a hs => ?_)
  have one2 : ∀ v ∈ [x, y], v.oneCell' = true := one_cons hx.one (one_cons hy.one one_nil)
  refine wp_seq (seg_v (T := []) [(0, 0), (1, 1)] [(0, 0), (1, 1)] (n := 30) (x := .normal) one2 forall_nil hs (by kernel_rfl) rfl rfl (fun a1 w1 hs hb1 => ?_))
  refine wp_seq ?_
  have one5 : ∀ v ∈ vl_prod0 x y ds es, v.oneCell' = true := one_cons hx.one (one_cons hy.one (one_cons rfl (one_cons rfl (one_cons rfl one_nil))))
  have hT : ∀ t ∈ [(⟨.blt .len [31] 3, [op 0], .val (op 2)⟩ : Ent), ⟨.blt .len [31] 3, [op 1], .val (op 3)⟩, ⟨.bin .add 3, [op 2, op 3], .val (op 4)⟩], t.Valid (CV 60 (vl_prod0 x y ds es) w1) :=
    forall_cons (e_len und_nat (pdW rfl (hx.below hb1 (Nat.le_refl _))) (rvW rfl)) (forall_cons (e_len und_nat (pdW rfl (hy.below hb1 (Nat.le_refl _))) (rvW rfl)) (forall_cons (e_add (by omega) (pvW rfl) (pvW rfl) (rvW rfl) (by omega)) forall_nil))
  have hs : St' 60 (vl_prod0 x y ds es) [(0, 0), (1, 1)] a1 := ⟨hs.defers, hs.size, hs.sl⟩
  show (Code.region 1 (opsOf (seqL (seqR b_prod))).toArray false).wp Tryz.prog _ _ _
  refine make_v [(0, 0), (1, 1)] [(0, 0), (1, 1)] 5 (s := 14) (d := 15) (t := 5) (B := w.heap.size) (n := ds.length + es.length) one5 hT hs 4 (by kernel_rfl) rfl rfl rfl rfl rfl rfl rfl rfl rfl rfl rfl rfl rfl rfl hb1.size (by omega) (fun z a2 w2 hz hown hs hb2 => ?_)
  have hb := hb1.trans hb2
  have hs : St' 60 [x, y, z] [(5, 2), (0, 0), (1, 1)] a2 := ⟨hs.defers, hs.size, hz, hs.sl⟩
  have one3 : ∀ v ∈ [x, y, z], v.oneCell' = true := one_cons hx.one (one_cons hy.one (one_cons hown.one one_nil))
  refine wp_seq (wp_seq (seg_vl (T := []) [(5, 2), (0, 0), (1, 1)] [(5, 2), (0, 0), (1, 1)] [(6, ii 0)] (n := 30) (x := .normal) one3 forall_nil hs (by kernel_rfl) rfl rfl (fun a3 w3 hs hl6 hb3 => ?_)))
  have hown := hown.below hb3
  have hb := hb.trans (hb3.mono hb.size)
  have hs : St' 60 (vl_prodo x y z ds 0) [(0, 0), (1, 1), (5, 2), (6, 3)] a3 := ⟨hs.defers, hs.size, hs.sl.2.1, hs.sl.2.2.1, hs.sl.1, hl6.1, trivial⟩
  refine while_is (Θ := Nat) (fun i a w1 => ∃ l, i ≤ ds.length ∧ l.length = ds.length + es.length ∧ (∀ d ∈ l, d < 10000) ∧ (∀ k, i + es.length ≤ k → l.getD k 0 = 0) ∧ nat l = nat (ds.take i) * nat es ∧ St' 60 (vl_prodo x y z ds i) [(0, 0), (1, 1), (5, 2), (6, 3)] a ∧ Own w.heap.size w1 z l ∧ Below w.heap.size w w1) (fun i => ds.length - i) ?_ 0 ⟨List.replicate (ds.length + es.length) 0, Nat.zero_le _, List.length_replicate, fun d hd => by have := List.eq_of_mem_replicate hd; omega, fun k hk => by rw [List.getD_eq_getElem?_getD, List.getElem?_replicate]; split <;> rfl, by rw [nat_zeros]; simp [nat], hs, hown, hb⟩
  rintro i a w1 ⟨l, hi, hll, hdl, hz0, hnat, hs, hown, hb⟩
  have one : ∀ v ∈ vl_prodo x y z ds i, v.oneCell' = true := one_cons hx.one (one_cons hy.one (one_cons hown.one (one_cons rfl (one_cons rfl (one_cons rfl one_nil)))))
  have hT : ∀ (b : Bool) w1, Below w.heap.size w w1 → decide (i < ds.length) = b → ∀ t ∈ [(⟨.blt .len [31] 3, [op 0], .val (op 4)⟩ : Ent), ⟨.bin .lss 3, [op 3, op 4], .val (vp (.bool b))⟩, ⟨.bin .add 3, [op 3, vp (ii 1)], .val (op 5)⟩], t.Valid (CV 60 (vl_prodo x y z ds i) w1) := fun b w1 hb h =>
    forall_cons (e_len und_nat (pdW rfl (hx.below hb (Nat.le_refl _))) (rvW rfl)) (forall_cons (e_lss (pvW rfl) (pvW rfl) (by rw [← h]; simp)) (forall_cons (e_add (by omega) (pvW rfl) pvl (rvW rfl) (by omega)) forall_nil))
  by_cases hend : i < ds.length
  · refine wp_seq (seg_v [(0, 0), (1, 1), (5, 2), (6, 3)] [(0, 0), (1, 1), (5, 2), (6, 3)] (n := 30) (x := .normal) one (hT true w1 hb (decide_eq_true hend)) hs (by kernel_rfl) rfl rfl (fun a5 w5 hs hb5 => ?_))
    have hown := hown.below hb5
    have hb := hb.trans (hb5.mono hb.size)
    refine wp_seq (wp_block (wp_seq (seg_vl (T := []) [(0, 0), (1, 1), (5, 2), (6, 3)] [(0, 0), (1, 1), (5, 2), (6, 3)] [(7, ii 0)] (n := 30) (x := .normal) one forall_nil hs (by kernel_rfl) rfl rfl (fun a6 w6 hs hl7 hb6 => ?_))))
    have hown := hown.below hb6
    have hb := hb.trans (hb6.mono hb.size)
    have hs : St' 60 [x, y, z, ii (i : Int), ii 0] [(0, 0), (1, 1), (5, 2), (6, 3), (7, 4)] a6 := ⟨hs.defers, hs.size, hs.sl.1, hs.sl.2.1, hs.sl.2.2.1, hs.sl.2.2.2.1, hl7.1, trivial⟩
    have one5 : ∀ v ∈ [x, y, z, ii (i : Int), ii 0], v.oneCell' = true := one_cons hx.one (one_cons hy.one (one_cons hown.one (one_cons rfl (one_cons rfl one_nil))))
    refine wp_seq (seg_vl (T := []) [(0, 0), (1, 1), (5, 2), (6, 3), (7, 4)] [(0, 0), (1, 1), (5, 2), (6, 3), (7, 4)] [(8, ii 0)] (n := 30) (x := .normal) one5 forall_nil hs (by kernel_rfl) rfl rfl (fun a7 w7 hs hl8 hb7 => ?_))
    have hown := hown.below hb7
    have hb := hb.trans (hb7.mono hb.size)
    have hs : St' 60 (vl_prod x y z ds es l i 0 0) [(0, 0), (1, 1), (5, 2), (6, 3), (7, 4), (8, 5)] a7 := ⟨hs.defers, hs.size, hs.sl.1, hs.sl.2.1, hs.sl.2.2.1, hs.sl.2.2.2.1, hs.sl.2.2.2.2.1, hl8.1, trivial⟩
    refine prod_inner x y z ds es l i w.heap.size hend hds hes hl1 hl2 hll hdl hz0 a7 w7 (hx.below hb (Nat.le_refl _)) (hy.below hb (Nat.le_refl _)) (fun w' h => hx.below (hb.trans h) (Nat.le_refl _)) (fun w' h => hy.below (hb.trans h) (Nat.le_refl _)) hs hown hb.size (fun a8 w8 l' hll' hdl' hz' hnat' hs hown hb8 => ?_)
    have hb := hb.trans hb8
    have hs : St' 60 (vl_prodo x y z ds i) [(0, 0), (1, 1), (5, 2), (6, 3)] a8 := ⟨hs.defers, hs.size, hs.sl⟩
    show (seqR (seqR lo_prod)).wp Tryz.prog _ _ _
    refine seg_v [(0, 0), (1, 1), (5, 2), (6, 3)] [(0, 0), (1, 1), (5, 2), (6, 5)] (n := 30) (x := .normal) one (hT true w8 hb (decide_eq_true hend)) hs (by kernel_rfl) rfl rfl (fun a9 w9 hs hb9 => ?_)
    refine ⟨i + 1, ⟨l', by omega, hll', hdl', hz', ?_, ⟨hs.defers, hs.size, hs.sl⟩, hown.below hb9, hb.trans (hb9.mono hb.size)⟩, by show ds.length - (i + 1) < ds.length - i; omega⟩
    rw [← hnat', hnat, nat_take]
    grind
  · refine wp_seq (seg_v [(0, 0), (1, 1), (5, 2), (6, 3)] [(5, 2)] (n := 30) (x := .exit 0) one (hT false w1 hb (decide_eq_false hend)) hs (by kernel_rfl) rfl rfl (fun a5 w5 hs hb5 => ?_))
    have hown := hown.below hb5
    have hb := hb.trans (hb5.mono hb.size)
    have hs : St' 60 [z] [(5, 0)] a5 := ⟨hs.defers, hs.size, hs.sl⟩
    have hC : (mkC [1, 1] [false, false] [] 60 [clW z, clD (strip l)] w5).Ok := mkC_ok (oks_cons (clW_ok hown.one) (oks_cons (clD_ok noT _) oks_nil)) rfl rfl
    have hT : ∀ t ∈ [(⟨.call 123, [op 0], .val (op 1)⟩ : Ent)], t.Valid (mkC [1, 1] [false, false] [] 60 [clW z, clD (strip l)] w5) := forall_cons (e_trim (pdW rfl hown.dg) (rd rfl)) forall_nil
    refine seg_vd (vl := [z]) [(5, 0)] [] (t := 4) (ds := strip l) hC hT hs 1 (fun i hi => ?_) rfl (n := 30) (x := .ret) (by kernel_rfl) rfl rfl (fun a6 w6 v h4 hv hs hb6 => ret_v rfl hs.defers h4 ⟨v, rfl, ?_, hb.trans (hb6.mono hb.size)⟩)
    · have hi : i < 1 := hi
      obtain rfl : i = 0 := by omega
      rfl
    · rw [List.take_of_length_le (by omega)] at hnat
      rw [← hnat, digs_nat hdl]
      exact hv
end Sym
open Go Go.RowKit Go.Proofs Lim
namespace Sym
section
variable {csz : List Nat} {numc : List Bool} {nt : Nat} {vl : List Value} {cl : List Cl} {w0 w : World} {a : Act} {T : List Ent} {Q : Exit → Act → World → Prop}
theorem items_gen (hcl : ∀ i, i < vl.length → cl[i]? = some (clW (vl.getD i undef))) {rest : List Item} : ∀ {is : List (Nat × Nat)} {bs : List Nat}, Sl a vl is → inVl is vl.length = true → (∀ bs, ItemsAre (mkC csz numc [] nt cl w0) a w rest bs) → ItemsAre (mkC csz numc [] nt cl w0) a w (itemsOf is ++ rest) bs
  | [], bs, _, _, hr => hr bs
  | p :: l, bs, h, hi, hr => by
    unfold inVl at hi
    split at hi
    · rename_i hp
      exact ⟨⟨_, h.1, (op_isW (hcl _ (by simpa using hp))).2 rfl⟩, items_gen hcl h.2 hi hr⟩
    · cases hi
theorem sl_gen (hcl : ∀ i, i < vl.length → cl[i]? = some (clW (vl.getD i undef))) {rest : List Item} : ∀ {is : List (Nat × Nat)} {bs : List Nat}, inVl is vl.length = true → ItemsAre (mkC csz numc [] nt cl w0) a w (itemsOf is ++ rest) bs → Sl a vl is ∧ ItemsAre (mkC csz numc [] nt cl w0) a w rest bs
  | [], bs, _, h => ⟨trivial, h⟩
  | p :: l, bs, hi, h => by
    unfold inVl at hi
    split at hi
    · rename_i hp
      obtain ⟨⟨v, h1, h2⟩, h3⟩ := h
      rw [(op_isW (hcl _ (by simpa using hp))).1 h2] at h1
      obtain ⟨q1, q2⟩ := sl_gen hcl hi h3
      exact ⟨⟨h1, q1⟩, q2⟩
    · cases hi
noncomputable def CX (nt : Nat) (vl : List Value) (ys : List Cl) (w : World) : Ctx := mkC (vl.map (fun _ => 1) ++ ys.map (·.n)) (vl.map (fun _ => false) ++ ys.map (·.num)) [] nt (vl.map clW ++ ys) w
theorem CX_ok {ys : List Cl} (h : ∀ v ∈ vl, v.oneCell' = true) (hy : ∀ y ∈ ys, y.Ok [] w.heap.size) : (CX nt vl ys w).Ok := by
  refine mkC_ok (fun x hx => ?_) (by rw [List.map_append, List.map_map]; rfl) (by rw [List.map_append, List.map_map]; rfl)
  rcases List.mem_append.1 hx with hx | hx
  · obtain ⟨v, hv, rfl⟩ := List.mem_map.1 hx
    exact clW_ok (h v hv)
  · exact hy x hx
theorem CX_get {ys : List Cl} : ∀ i, i < vl.length → (vl.map clW ++ ys)[i]? = some (clW (vl.getD i undef)) := fun i hi => by
  rw [List.getElem?_append_left (by simpa using hi)]
  exact getVl hi
theorem seg_x (ys : List Cl) (pre post : List (Nat × Nat)) {n : Nat} {c : Code} {x : Xt} (h1 : ∀ v ∈ vl, v.oneCell' = true) (hy : ∀ y ∈ ys, y.Ok [] w.heap.size) (hT : ∀ t ∈ T, t.Valid (CX nt vl ys w)) (hs : St' nt vl pre a)
    (h : segB (CX nt vl ys w).toStat T n c (itemsOf pre ++ []) x (itemsOf post ++ []) = true) (hi : inVl pre vl.length = true) (hi' : inVl post vl.length = true)
    (hQ : ∀ a' w', St' nt vl post a' → Below w.heap.size w w' → Q x.to a' w') : c.wp Tryz.prog Q a w := by
  refine seg_is (CX_ok h1 hy) hT h ⟨Below.refl _ _, hs.defers, hs.size, items_gen CX_get hs.sl hi (fun _ => trivial)⟩ (fun a' w' hA => ?_)
  exact hQ a' w' ⟨hA.defers, hA.size, (sl_gen CX_get hi' hA.items).1⟩ hA.below
theorem seg_xd (ys : List Cl) (pre post : List (Nat × Nat)) (t d : Nat) {ds : List Nat} {n : Nat} {c : Code} {x : Xt} (h1 : ∀ v ∈ vl, v.oneCell' = true) (hy : ∀ y ∈ ys, y.Ok [] w.heap.size) (hT : ∀ t ∈ T, t.Valid (CX nt vl ys w)) (hs : St' nt vl pre a) (hd : (vl.map clW ++ ys)[d]? = some (clD ds))
    (h : segB (CX nt vl ys w).toStat T n c (itemsOf pre ++ []) x (itemsOf post ++ [.val t (op d)]) = true) (hi : inVl pre vl.length = true) (hi' : inVl post vl.length = true)
    (hQ : ∀ a' w' v, a'.tmps[t]? = some v → Dg w' v ds → St' nt vl post a' → Below w.heap.size w w' → Q x.to a' w') : c.wp Tryz.prog Q a w := by
  refine seg_is (CX_ok h1 hy) hT h ⟨Below.refl _ _, hs.defers, hs.size, items_gen CX_get hs.sl hi (fun _ => trivial)⟩ (fun a' w' hA => ?_)
  obtain ⟨q1, ⟨⟨v, q2, q3⟩, _⟩⟩ := sl_gen CX_get hi' hA.items
  exact hQ a' w' v q2 ((op_isD hd).1 q3) ⟨hA.defers, hA.size, q1⟩ hA.below
theorem wp_cat {ops : Array Oper} {rest : List Oper} {o : Oper} {B s x : Nat} {z v : Value} {l rs : List Nat} (hgd : o.guard = none) (ho : o.op = .call { callee := .builtin .append, args := #[.tmp s, .tmp x], argTypes := #[31, 31] })
    (hs : a.tmps[s]? = some z) (hx : a.tmps[x]? = some v) (hv : Dg w v rs) (hown : Own B w z l) (hB : B ≤ w.heap.size) (hl : l.length + rs.length < 1000000000)
    (h : ∀ z' w', Own B w' z' (l ++ rs) → w.grownBy w' z.ownBlock → wpList Tryz.prog ops Q rest (a.put o.dst z') w') : wpList Tryz.prog ops Q (o :: rest) a w := by
  have hs' : a.eval (.tmp s) = z := by simp [Act.eval, Array.getD_eq_getD_getElem?, hs]
  obtain ⟨i, hi, hz, q1, q2⟩ := info_int
  obtain ⟨ao, cap, rfl, h1, h2, h3⟩ := hv
  have hx' : a.eval (.tmp x) = .slice ao rs.length cap := by simp [Act.eval, Array.getD_eq_getD_getElem?, hx]
  cases ao with
  | none =>
    have hr0 : rs = [] := by
      cases rs with
      | nil => rfl
      | cons r rs =>
        obtain ⟨b, off, h4, _⟩ := h3 (by simp)
        cases h4
    subst hr0
    refine wpList_plain hgd fun K hK => ?_
    have hr : (Builtin.append_ #[31, 31] o.type #[z, .slice none 0 cap]).run Tryz.prog w = .ok z w := by
      have hu : Tryz.prog.underlying 31 = some (.slice 3) := by kernel_rfl
      rcases hown.2 with ⟨rfl, _⟩ | ⟨g, cap', cur, rfl, _, _, hnc, _⟩
      · simp [Builtin.append_, run_underlying hu, sizeOf, typeInfo, hi, Builtin.lenOf, Builtin.firstCells]
      · simp [Builtin.append_, run_underlying hu, sizeOf, typeInfo, hi, Builtin.lenOf, Builtin.firstCells, hnc, storeCells]
    unfold Oper.wp execOp
    simp only [ho, resolve, invoke, builtin, Sem.run_bind, Sem.run_pure, Result.andThen_ok, List.map_toArray, List.map_cons, List.map_nil, hs', hx', List.length_nil, hr]
    exact hK _ _ (h z w (by rw [List.append_nil]; exact hown) ⟨rfl, rfl, rfl, Nat.le_refl _, fun _ _ _ => rfl⟩)
  | some ad =>
    refine wpList_append_own w hgd (.tmp s) (.tmp x) 31 ho B 3 i (ii 0) 1 8 (by kernel_rfl) hi hz q1 q2 rfl (by decide) z l.length _ hs' hown ad rs.length cap (rs.map (fun d : Nat => ii (d : Int))) hx' (by simp) ?_ ?_ (by simp only [maxLen]; omega) (by omega) hB ?_
    · intro j u hj
      have hjl : j < rs.length := by
        rcases Nat.lt_or_ge j rs.length with h | h
        · exact h
        · rw [List.getElem?_eq_none (by simpa using h)] at hj; cases hj
      obtain ⟨b, off, h4, _, h5⟩ := h3 (by omega)
      have h4 : ad = ⟨b, off, none⟩ := Option.some.inj h4
      subst h4
      have := h5 j hjl
      rw [List.getElem?_map, List.getElem?_eq_getElem hjl] at hj
      have hu : u = ii ((rs.getD j 0 : Nat) : Int) := by
        have : rs.getD j 0 = rs[j] := by simp [List.getD, hjl]
        rw [this]
        simpa using hj.symm
      rw [hu, addr_add]
      exact this
    · intro u hu
      obtain ⟨d, _, rfl⟩ := List.mem_map.1 hu
      rfl
    · intro z' w' g1 g2 _
      refine h z' w' ?_ g2
      have : Own B w' z' (l ++ rs) = w'.ownsRow B 3 1 z' (l.length + rs.length) ((l.map (fun d : Nat => ii (d : Int))) ++ rs.map (fun d : Nat => ii (d : Int))) := by simp [Own]
      rw [this]
      exact g1
end
end Sym
open Go Go.RowKit Go.Proofs Lim
namespace Sym
theorem nat_digs (n : Nat) : nat (digs n) = n := by
  induction n using Nat.strongRecOn with
  | _ n ih =>
    by_cases h0 : n = 0
    · subst h0; rw [digs_zero]; rfl
    · rw [digs_pos h0]
      show n % 10000 + 10000 * nat (digs (n / 10000)) = n
      rw [ih _ (by omega)]
      omega
theorem digs_lt (n : Nat) : ∀ d ∈ digs n, d < 10000 := by
  induction n using Nat.strongRecOn with
  | _ n ih =>
    by_cases h0 : n = 0
    · subst h0; rw [digs_zero]; simp
    · rw [digs_pos h0]
      intro d hd
      rcases List.mem_cons.1 hd with rfl | hd
      · omega
      · exact ih _ (by omega) d hd
theorem digs_mono {a b : Nat} (h : a ≤ b) : (digs a).length ≤ (digs b).length := by
  induction b using Nat.strongRecOn generalizing a with
  | _ b ih =>
    by_cases h0 : a = 0
    · subst h0; rw [digs_zero]; simp
    · rw [digs_pos h0, digs_pos (n := b) (by omega)]
      have := ih (b / 10000) (by omega) (a := a / 10000) (Nat.div_le_div_right h)
      simp only [List.length_cons]
      omega
theorem dig_digs (n : Nat) : Dig (digs n) := dig_of (digs_lt n)
section
variable {csz : List Nat} {numc : List Bool} {okT : List Nat} {nt : Nat} {cl : List Cl} {w0 : World} {p1 p2 : Pat} {res : RPat} {ds es : List Nat} {n : Nat}
theorem e_small (hn : n < 18446744073709551616) (h1 : PV csz numc okT nt cl w0 p1 (ui n)) (h3 : RD csz numc okT nt cl w0 res (digs n)) : V csz numc okT nt cl w0 (.call 87) [p1] res := by
  refine ⟨enters_of Tryz.func87 (by kernel_rfl) rfl, fun w vs hb hvs => ?_⟩
  obtain ⟨v1, _, rfl, h4, rfl⟩ := hvs
  obtain rfl := h1 _ _ h4
  refine (small_ok n hn w).mono ?_
  rintro e w' ⟨v, rfl, hv, hb'⟩
  exact ⟨_, rfl, h3 w' v hv, hb'⟩
theorem e_product (h1 : PD csz numc okT nt cl w0 p1 ds) (h2 : PD csz numc okT nt cl w0 p2 es) (hds : Dig ds) (hes : Dig es) (hl1 : ds.length < 100000000) (hl2 : es.length < 100000000) (h3 : RD csz numc okT nt cl w0 res (digs (nat ds * nat es))) : V csz numc okT nt cl w0 (.call 93) [p1, p2] res := by
  refine ⟨enters_of Tryz.func93 (by kernel_rfl) rfl, fun w vs hb hvs => ?_⟩
  obtain ⟨v1, _, rfl, h4, v2, _, rfl, h5, rfl⟩ := hvs
  refine (product_ok v1 v2 ds es w (h1 _ _ hb h4) (h2 _ _ hb h5) hds hes hl1 hl2).mono ?_
  rintro e w' ⟨v, rfl, hv, hb'⟩
  exact ⟨_, rfl, h3 w' v hv, hb'⟩
theorem e_order (h1 : PD csz numc okT nt cl w0 p1 ds) (h2 : PD csz numc okT nt cl w0 p2 es) (hds : Dig ds) (hes : Dig es) (h3 : RV csz numc okT nt cl w0 res (ii (cmpN (nat ds) (nat es)))) : V csz numc okT nt cl w0 (.call 89) [p1, p2] res := by
  refine ⟨enters_of Tryz.func89 (by kernel_rfl) rfl, fun w vs hb hvs => ?_⟩
  obtain ⟨v1, _, rfl, h4, v2, _, rfl, h5, rfl⟩ := hvs
  refine (order_ok v1 v2 ds es w (h1 _ _ hb h4) (h2 _ _ hb h5) hds hes).mono ?_
  rintro e w' ⟨rfl, hb'⟩
  exact ⟨_, rfl, h3 w', hb'⟩
theorem e_rest (h1 : PD csz numc okT nt cl w0 p1 ds) (h2 : PD csz numc okT nt cl w0 p2 es) (hds : Dig ds) (hes : Dig es) (hl1 : ds.length < 100000000) (hl2 : es.length ≤ ds.length) (hle : nat es ≤ nat ds) (h3 : RD csz numc okT nt cl w0 res (digs (nat ds - nat es))) : V csz numc okT nt cl w0 (.call 95) [p1, p2] res := by
  refine ⟨enters_of Tryz.func95 (by kernel_rfl) rfl, fun w vs hb hvs => ?_⟩
  obtain ⟨v1, _, rfl, h4, v2, _, rfl, h5, rfl⟩ := hvs
  refine (rest_ok v1 v2 ds es w (h1 _ _ hb h4) (h2 _ _ hb h5) hds hes hl1 hl2 hle).mono ?_
  rintro e w' ⟨v, rfl, hv, _, hb'⟩
  exact ⟨_, rfl, h3 w' v hv, hb'⟩
end
noncomputable def b_div : Code := bodyOf Tryz.f100
noncomputable def lo_div : Code := inner (inner (seqR (seqL (seqR (seqR (seqR b_div))))))
noncomputable def li_div : Code := inner (inner (seqL (seqR (seqR (inner (seqL (seqR lo_div)))))))
abbrev vl_di (x y q r : Value) (i : Int) (Y R low high : Nat) : List Value := [x, y, q, r, ii i, ii (low : Int), ii (high : Int), ii ((high - low : Nat) : Int), ii ((low + high : Nat) : Int), ii (((low + high) / 2 : Nat) : Int), ui ((low + high) / 2), ii (cmpN (Y * ((low + high) / 2)) R)]
def t_di (b2 : Bool) : List Ent := [⟨.bin .sub 3, [op 6, op 5], .val (op 7)⟩, ⟨.bin .gtr 3, [op 7, vp (ii 1)], .val (vp (.bool true))⟩, ⟨.bin .add 3, [op 5, op 6], .val (op 8)⟩, ⟨.bin .quo 3, [op 8, vp (ii 2)], .val (op 9)⟩, ⟨.cv 3 23, [op 9], .val (op 10)⟩, ⟨.call 87, [op 10], .val (op 12)⟩, ⟨.call 93, [op 1, op 12], .val (op 13)⟩, ⟨.call 89, [op 13, op 3], .val (op 11)⟩, ⟨.bin .leq 3, [op 11, vp (ii 0)], .val (vp (.bool b2))⟩]
def t_di0 : List Ent := [⟨.bin .sub 3, [op 6, op 5], .val (op 7)⟩, ⟨.bin .gtr 3, [op 7, vp (ii 1)], .val (vp (.bool false))⟩]
theorem cmpN_le {a b : Nat} : cmpN a b ≤ 0 ↔ a ≤ b := by unfold cmpN; split <;> (try split) <;> omega
theorem div_inner (x y q r : Value) (i : Int) (es rl : List Nat) (hes : Dig es) (hrl : Dig rl) (hl1 : es.length < 100000000) (hx1 : x.oneCell' = true) (hq1 : q.oneCell' = true) (a : Act) (w1 : World) (hy : Dg w1 y es) (hr : Dg w1 r rl) (h10 : nat rl < 10000 * nat es)
    (hs : St' 63 (vl_di x y q r i (nat es) (nat rl) 0 10000) [(0, 0), (1, 1), (6, 2), (7, 3), (8, 4), (9, 5), (10, 6)] a) {Q : Exit → Act → World → Prop}
    (hQ : ∀ a' w', St' 63 [x, y, q, r, ii i, ii ((nat rl / nat es : Nat) : Int)] [(0, 0), (1, 1), (6, 2), (7, 3), (8, 4), (9, 5)] a' → Below w1.heap.size w1 w' → Q .normal a' w') : (Code.block 2 (.loop li_div)).wp Tryz.prog Q a w1 := by
  refine while_is (Θ := Nat × Nat) (fun θ a w' => θ.2 ≤ 10000 ∧ θ.1 < θ.2 ∧ nat es * θ.1 ≤ nat rl ∧ nat rl < nat es * θ.2 ∧ St' 63 (vl_di x y q r i (nat es) (nat rl) θ.1 θ.2) [(0, 0), (1, 1), (6, 2), (7, 3), (8, 4), (9, 5), (10, 6)] a ∧ Below w1.heap.size w1 w') (fun θ => θ.2 - θ.1) ?_ (0, 10000) ⟨Nat.le_refl _, by decide, by simp, by show nat rl < nat es * 10000; omega, hs, Below.refl _ _⟩
  rintro ⟨low, high⟩ a w2 ⟨hh, hlh, h1, h2, hs, hb⟩
  have hh : high ≤ 10000 := hh
  have hlh : low < high := hlh
  have h1 : nat es * low ≤ nat rl := h1
  have h2 : nat rl < nat es * high := h2
  have one : ∀ v ∈ vl_di x y q r i (nat es) (nat rl) low high, v.oneCell' = true := one_cons hx1 (one_cons hy.one (one_cons hq1 (one_cons hr.one (one_cons rfl (one_cons rfl (one_cons rfl (one_cons rfl (one_cons rfl (one_cons rfl (one_cons rfl (one_cons rfl one_nil)))))))))))
  by_cases hgo : 1 < high - low
  · have hm9 : (low + high) / 2 < 10000 := by omega
    have hT : ∀ b2, decide (nat es * ((low + high) / 2) ≤ nat rl) = b2 → ∀ t ∈ t_di b2, t.Valid (CX 63 (vl_di x y q r i (nat es) (nat rl) low high) [clD (digs ((low + high) / 2)), clD (digs (nat es * ((low + high) / 2)))] w2) := fun b2 hb2 =>
      forall_cons (e_sub (by omega) (pvW rfl) (pvW rfl) (rvW rfl) (by omega)) (forall_cons (e_gtr (pvW rfl) pvl (decide_eq_true (by omega))) (forall_cons (e_add (by omega) (pvW rfl) (pvW rfl) (rvW rfl) (by omega)) (forall_cons (e_quo (k := .i64) (n := 2) (pvW rfl) pvl (rvW rfl) (by decide) (by rw [IntKind.wrap_i64]; omega))
        (forall_cons (e_cv (by kernel_rfl) (by kernel_rfl) (by kernel_rfl) (pvW rfl) (rvW rfl) (by rw [IntKind.wrap_u64]; omega)) (forall_cons (e_small (by omega) (pvW rfl) (rd rfl)) (forall_cons (e_product (es := digs ((low + high) / 2)) (pdW rfl (hy.below hb (Nat.le_refl _))) (pd rfl) hes (dig_digs _) hl1 (by have := digs_len 1 ((low + high) / 2) (by omega); omega) (rd (by rw [nat_digs]; rfl)))
          (forall_cons (e_order (ds := digs (nat es * ((low + high) / 2))) (pd rfl) (pdW rfl (hr.below hb (Nat.le_refl _))) (dig_digs _) hrl (by rw [nat_digs]; exact rvW rfl)) (forall_cons (e_leq (pvW rfl) pvl (by rw [← hb2]; congr 1; exact propext cmpN_le)) forall_nil))))))))
    by_cases hc : nat es * ((low + high) / 2) ≤ nat rl
    · refine seg_x [clD (digs ((low + high) / 2)), clD (digs (nat es * ((low + high) / 2)))] [(0, 0), (1, 1), (6, 2), (7, 3), (8, 4), (9, 5), (10, 6)] [(0, 0), (1, 1), (6, 2), (7, 3), (8, 4), (9, 9), (10, 6)] (n := 30) (x := .normal) one (oks_cons (clD_ok noT _) (oks_cons (clD_ok noT _) oks_nil)) (hT true (decide_eq_true hc)) hs (by kernel_rfl) rfl rfl (fun a5 w5 hs hb5 => ?_)
      exact ⟨((low + high) / 2, high), ⟨hh, by show (low + high) / 2 < high; omega, hc, h2, ⟨hs.defers, hs.size, hs.sl⟩, hb.trans (hb5.mono hb.size)⟩, by show high - (low + high) / 2 < high - low; omega⟩
    · refine seg_x [clD (digs ((low + high) / 2)), clD (digs (nat es * ((low + high) / 2)))] [(0, 0), (1, 1), (6, 2), (7, 3), (8, 4), (9, 5), (10, 6)] [(0, 0), (1, 1), (6, 2), (7, 3), (8, 4), (9, 5), (10, 9)] (n := 30) (x := .normal) one (oks_cons (clD_ok noT _) (oks_cons (clD_ok noT _) oks_nil)) (hT false (decide_eq_false hc)) hs (by kernel_rfl) rfl rfl (fun a5 w5 hs hb5 => ?_)
      exact ⟨(low, (low + high) / 2), ⟨by show (low + high) / 2 ≤ 10000; omega, by show low < (low + high) / 2; omega, h1, Nat.lt_of_not_le hc, ⟨hs.defers, hs.size, hs.sl⟩, hb.trans (hb5.mono hb.size)⟩, by show (low + high) / 2 - low < high - low; omega⟩
  · have hT : ∀ t ∈ t_di0, t.Valid (CV 63 (vl_di x y q r i (nat es) (nat rl) low high) w2) := forall_cons (e_sub (by omega) (pvW rfl) (pvW rfl) (rvW rfl) (by omega)) (forall_cons (e_gtr (pvW rfl) pvl (decide_eq_false (by omega))) forall_nil)
    refine seg_v [(0, 0), (1, 1), (6, 2), (7, 3), (8, 4), (9, 5), (10, 6)] [(0, 0), (1, 1), (6, 2), (7, 3), (8, 4), (9, 5)] (n := 30) (x := .exit 2) one hT hs (by kernel_rfl) rfl rfl (fun a5 w5 hs hb5 => ?_)
    have hlow : nat rl / nat es = low := by
      have : high = low + 1 := by omega
      subst this
      exact Nat.div_eq_of_lt_le (by rw [Nat.mul_comm]; exact h1) (by rw [Nat.mul_comm]; exact h2)
    refine hQ a5 w5 ⟨hs.defers, hs.size, ?_⟩ (hb.trans (hb5.mono hb.size))
    rw [hlow]
    exact hs.sl
theorem ret_v2 {fn : Func} {t s : Nat} {a : Act} {w : World} {v u : Value} (hr : fn.results = #[.tmp t, .tmp s]) (hd : a.defers = []) (ht : a.tmps[t]? = some v) (hu : a.tmps[s]? = some u) {Q : Ending → World → Prop} (h : Q (.returned (.tuple #[v, u])) w) : bodyPost Tryz.prog fn Q .ret a w := by
  refine ⟨hd, .tuple #[v, u], ?_, h⟩
  rw [results_eq, hr]
  have e1 : a.tmps.getD t undef = v := by rw [Array.getD_eq_getD_getElem?, ht]; rfl
  have e2 : a.tmps.getD s undef = u := by rw [Array.getD_eq_getD_getElem?, hu]; rfl
  simp [resF, e1, e2]
abbrev vl_dc (x y q r : Value) (ds : List Nat) (i : Nat) : List Value := [x, y, q, r, ii (i : Int), ptrAt x i, ii ((ds.getD i 0 : Nat) : Int)]
theorem div_cons (x y q r : Value) (ds rl : List Nat) (i : Nat) (hi : i < ds.length) (hds : Dig ds) (a : Act) (w1 : World) (hx : Dg w1 x ds) (hy1 : y.oneCell' = true) (hq1 : q.oneCell' = true) (hr : Dg w1 r rl) (hl : rl.length < 100000000)
    (hs : St' 63 (vl_dc x y q r ds i) [(0, 0), (1, 1), (6, 2), (7, 3), (8, 4)] a) {Q : Exit → Act → World → Prop}
    (hQ : ∀ a' w' r', Dg w' r' (strip (ds.getD i 0 :: rl)) → (∀ k, r'.ownBlock = some k → w1.heap.size ≤ k) → St' 63 [x, y, q, r', ii (i : Int)] [(0, 0), (1, 1), (6, 2), (7, 3), (8, 4)] a' → Below w1.heap.size w1 w' → Q .normal a' w') : (seqL (inner (seqL (seqR lo_div)))).wp Tryz.prog Q a w1 := by
  have one : ∀ v ∈ vl_dc x y q r ds i, v.oneCell' = true := one_cons hx.one (one_cons hy1 (one_cons hq1 (one_cons hr.one (one_cons rfl (one_cons (ptrAt_one _ _) (one_cons rfl one_nil))))))
  have hT : ∀ t ∈ [(⟨.ix 31, [op 0, op 4], .val (op 5)⟩ : Ent), ⟨.ld 3, [op 5], .val (op 6)⟩], t.Valid (CV 63 (vl_dc x y q r ds i) w1) := forall_cons (e_ixW und_nat elem_nat (pvW rfl) hx (pvW rfl) hi (rvW rfl)) (forall_cons (e_ldW (pvW rfl) hx hi (rvW rfl)) forall_nil)
  show (Code.region 6 (opsOf (seqL (inner (seqL (seqR lo_div))))).toArray false).wp Tryz.prog _ _ _
  refine wp_region_lit ?_
  show wpList _ _ _ ((opsOf (seqL (inner (seqL (seqR lo_div))))).take 6 ++ (opsOf (seqL (inner (seqL (seqR lo_div))))).drop 6) _ _
  refine ops_is (CV_ok one) hT (post := itemsOf [(28, 3), (0, 0), (1, 1), (6, 2), (8, 4)] ++ [.own 27 3 1 [.cls 6 1]]) (by kernel_rfl) (hs.at rfl) (fun a2 w2 hA => ?_)
  obtain ⟨⟨s28, hsl⟩, ⟨k, vs, s27, hk, hkc, hvs⟩, _⟩ := items_sl (is := [(28, 3), (0, 0), (1, 1), (6, 2), (8, 4)]) rfl hA.items
  have hvs : vs = [ii ((ds.getD i 0 : Nat) : Int)] := by
    obtain ⟨xs, ys, rfl, ⟨f, hE, rfl⟩, hy⟩ := hvs
    rw [show ys = [] from hy]
    have hE : f 0 = ii ((ds.getD i 0 : Nat) : Int) := hE
    simp [List.range_succ, hE]
  subst hvs
  have hown : Own w1.heap.size w2 (.slice (some ⟨k, 0, none⟩) 1 1) [ds.getD i 0] := ⟨rfl, .inr ⟨k, 1, #[ii ((ds.getD i 0 : Nat) : Int)], rfl, hk, hkc, Nat.le_refl _, by decide, rfl, rfl⟩⟩
  refine wp_cat rfl rfl s27 s28 (hr.below hA.below (Nat.le_refl _)) hown hA.below.size (by simp; omega) (fun z' w3 hown' hgr => ?_)
  have hb3 : Below w1.heap.size w1 w3 := hA.below.trans ⟨hgr.os, hgr.tape, hgr.output, hgr.size, fun j hj => hgr.block j (Nat.lt_of_lt_of_le hj hA.below.size) (fun e => by have := hown.lt j e.symm; have hj : j < w1.heap.size := hj; omega)⟩
  have hsz : 29 < a2.tmps.size := by rw [hA.size]; show 29 < 63; decide
  have hs : St' 63 [x, y, q, z', ii (i : Int)] [(29, 3), (0, 0), (1, 1), (6, 2), (8, 4)] (a2.put (some 29) z') := ⟨(put_defers _ _ _).trans hA.defers, (put_size _ _ _).trans hA.size, put_self hsz, Sl.put (vl := [x, y, q, z', ii (i : Int)]) (is := [(0, 0), (1, 1), (6, 2), (8, 4)]) rfl hsl⟩
  have one' : ∀ v ∈ [x, y, q, z', ii (i : Int)], v.oneCell' = true := one_cons hx.one (one_cons hy1 (one_cons hq1 (one_cons hown'.one (one_cons rfl one_nil))))
  have hT : ∀ t ∈ [(⟨.call 123, [op 3], .val (op 5)⟩ : Ent)], t.Valid (CX 63 [x, y, q, z', ii (i : Int)] [clF w1.heap.size (strip (ds.getD i 0 :: rl))] w3) := forall_cons (e_trimF (pfW rfl hown'.dg (fun k hk => (hown'.lt k hk).1)) (rf rfl)) forall_nil
  refine ops_end (CX_ok one' (oks_cons (clF_ok noT _ _) oks_nil)) hT (pre := itemsOf [(29, 3), (0, 0), (1, 1), (6, 2), (8, 4)] ++ []) (post := itemsOf [(0, 0), (1, 1), (6, 2), (8, 4)] ++ [.val 7 (op 5)]) (by kernel_rfl) ⟨Below.refl _ _, hs.defers, hs.size, items_gen CX_get hs.sl rfl (fun _ => trivial)⟩ (fun a4 w4 hA => ?_)
  obtain ⟨q1, ⟨⟨v, q2, q3⟩, _⟩⟩ := sl_gen (vl := [x, y, q, z', ii (i : Int)]) (is := [(0, 0), (1, 1), (6, 2), (8, 4)]) CX_get rfl hA.items
  exact hQ a4 w4 v ((op_isF rfl).1 q3).1 ((op_isF rfl).1 q3).2 ⟨hA.defers, hA.size, q1.1, q1.2.1, q1.2.2.1, q2, q1.2.2.2.1, trivial⟩ (hb3.trans (hA.below.mono hb3.size))
theorem nat_strip (l : List Nat) : nat (strip l) = nat l := by
  induction l with
  | nil => rfl
  | cons d l ih =>
    rw [strip_cons]
    split
    · rename_i h
      rw [h.2] at ih
      show 0 = d + 10000 * nat l
      rw [← ih, h.1]; rfl
    · show d + 10000 * nat (strip l) = d + 10000 * nat l
      rw [ih]
abbrev vl_do (x y q r : Value) (k : Nat) : List Value := [x, y, q, r, ii (idx k), ii (idx (k - 1))]
abbrev vl_dr (x y q r : Value) (i : Nat) (low : Nat) : List Value := [x, y, q, r, ii (i : Int), ii (low : Int), ptrAt q i, ui low]
theorem divide_ok (x y : Value) (ds es : List Nat) (w : World) (hx : Dg w x ds) (hy : Dg w y es) (hds : Dig ds) (hes : Dig es) (hem : ∀ d ∈ es, d < 10000) (hl1 : ds.length < 10000000) (hl2 : es.length < 10000000) (hpos : 0 < nat es) :
    Calls Tryz.prog 100 #[x, y] w (fun e w' => ∃ v u, e = .returned (.tuple #[v, u]) ∧ Dg w' v (digs (nat ds / nat es)) ∧ Dg w' u (digs (nat ds % nat es)) ∧ Below w.heap.size w w') := by
  refine calls_v2 (nt := 63) (f := 100) Tryz.func100 (c := .seq (seqL b_div) (.seq (seqL (seqR b_div)) (.seq (seqL (seqR (seqR b_div))) (.seq (.seq (seqL (seqL (seqR (seqR (seqR b_div))))) (.block 0 (.loop lo_div))) (seqR (seqR (seqR (seqR b_div)))))))) rfl rfl rfl x y (fun a hs => ?_)
  have one2 : ∀ v ∈ [x, y], v.oneCell' = true := one_cons hx.one (one_cons hy.one one_nil)
  refine wp_seq (seg_v (T := []) [(0, 0), (1, 1)] [(0, 0), (1, 1)] (n := 30) (x := .normal) one2 forall_nil hs (by kernel_rfl) rfl rfl (fun a1 w1 hs hb1 => ?_))
  refine wp_seq ?_
  have onel : ∀ v ∈ [x, y, ii (ds.length : Int)], v.oneCell' = true := one_cons hx.one (one_cons hy.one (one_cons rfl one_nil))
  have hT : ∀ t ∈ [(⟨.blt .len [31] 3, [op 0], .val (op 2)⟩ : Ent)], t.Valid (CV 63 [x, y, ii (ds.length : Int)] w1) := forall_cons (e_len und_nat (pdW rfl (hx.below hb1 (Nat.le_refl _))) (rvW rfl)) forall_nil
  have hs : St' 63 [x, y, ii (ds.length : Int)] [(0, 0), (1, 1)] a1 := ⟨hs.defers, hs.size, hs.sl⟩
  show (Code.region 1 (opsOf (seqL (seqR b_div))).toArray false).wp Tryz.prog _ _ _
  refine make_v [(0, 0), (1, 1)] [(0, 0), (1, 1)] 2 (s := 13) (d := 14) (t := 6) (B := w.heap.size) (n := ds.length) onel hT hs 2 (by kernel_rfl) rfl rfl rfl rfl rfl rfl rfl rfl rfl rfl rfl rfl rfl rfl hb1.size (by omega) (fun q a2 w2 hq hown hs hb2 => ?_)
  have hb := hb1.trans hb2
  have hs : St' 63 [x, y, q] [(6, 2), (0, 0), (1, 1)] a2 := ⟨hs.defers, hs.size, hq, hs.sl⟩
  refine wp_seq ?_
  show (Code.region 2 [_, _].toArray false).wp Tryz.prog _ _ _
  refine empty_v [(6, 2), (0, 0), (1, 1)] (d := 15) (t := 7) hs rfl rfl rfl rfl rfl rfl rfl rfl rfl rfl (B := w.heap.size) hb.size (fun r a3 w3 hr hownr hs hb3 => ?_)
  have hown := hown.below hb3
  have hb := hb.trans (hb3.mono hb.size)
  have hrd := hownr.dg
  have onei : ∀ v ∈ [x, y, q, r, ii (ds.length : Int), ii (idx ds.length)], v.oneCell' = true := one_cons hx.one (one_cons hy.one (one_cons hown.one (one_cons hrd.one (one_cons rfl (one_cons rfl one_nil)))))
  have hs : St' 63 [x, y, q, r, ii (ds.length : Int), ii (idx ds.length)] [(0, 0), (1, 1), (6, 2), (7, 3)] a3 := ⟨hs.defers, hs.size, hs.sl.2.1, hs.sl.2.2.1, hs.sl.1, hr, trivial⟩
  have hT : ∀ t ∈ [(⟨.blt .len [31] 3, [op 0], .val (op 4)⟩ : Ent), ⟨.bin .sub 3, [op 4, vp (ii 1)], .val (op 5)⟩], t.Valid (CV 63 [x, y, q, r, ii (ds.length : Int), ii (idx ds.length)] w3) :=
    forall_cons (e_len und_nat (pdW rfl (hx.below hb (Nat.le_refl _))) (rvW rfl)) (forall_cons (e_sub (by cases hk : ds.length with | zero => rfl | succ m => show ((m + 1 : Nat) : Int) - 1 = (m : Int); omega) (pvW rfl) pvl (rvW rfl) (by cases hk : ds.length with | zero => decide | succ m => show _ ≤ (m : Int) ∧ (m : Int) ≤ _; omega)) forall_nil)
  refine wp_seq (wp_seq (seg_v [(0, 0), (1, 1), (6, 2), (7, 3)] [(0, 0), (1, 1), (6, 2), (7, 3), (8, 5)] (n := 30) (x := .normal) onei hT hs (by kernel_rfl) rfl rfl (fun a4 w4 hs hb4 => ?_)))
  have hown := hown.below hb4
  have hrd := hrd.below hb4 (Nat.le_refl _)
  have hb := hb.trans (hb4.mono hb.size)
  refine while_is (Θ := Nat) (fun k a w1 => ∃ r ql, k ≤ ds.length ∧ ql.length = ds.length ∧ (∀ d ∈ ql, d < 10000) ∧ nat (ql.drop k) = nat (ds.drop k) / nat es ∧ Dg w1 r (digs (nat (ds.drop k) % nat es)) ∧ St' 63 (vl_do x y q r k) [(0, 0), (1, 1), (6, 2), (7, 3), (8, 4)] a ∧ Own w.heap.size w1 q ql ∧ Below w.heap.size w w1) id ?_ ds.length ⟨r, List.replicate ds.length 0, Nat.le_refl _, List.length_replicate, fun d hd => by have := List.eq_of_mem_replicate hd; omega, by rw [nat_drop_end (by simp), nat_drop_end (Nat.le_refl _)]; simp, by rw [nat_drop_end (Nat.le_refl _), Nat.zero_mod, digs_zero]; exact hrd, ⟨hs.defers, hs.size, hs.sl⟩, hown, hb⟩
  rintro k a w1 ⟨r, ql, hk, hql, hqd, hnq, hr, hs, hown, hb⟩
  have one : ∀ v ∈ vl_do x y q r k, v.oneCell' = true := one_cons hx.one (one_cons hy.one (one_cons hown.one (one_cons hr.one (one_cons rfl (one_cons rfl one_nil)))))
  cases k with
  | zero =>
    have hT : ∀ t ∈ [(⟨.bin .geq 3, [op 4, vp (ii 0)], .val (vp (.bool false))⟩ : Ent)], t.Valid (CV 63 (vl_do x y q r 0) w1) := forall_cons (e_geq (pvW rfl) pvl (decide_eq_false (by decide))) forall_nil
    refine wp_seq (seg_v [(0, 0), (1, 1), (6, 2), (7, 3), (8, 4)] [(6, 2), (7, 3)] (n := 30) (x := .exit 0) one hT hs (by kernel_rfl) rfl rfl (fun a5 w5 hs hb5 => ?_))
    have hown := hown.below hb5
    have hr := hr.below hb5 (Nat.le_refl _)
    have hb := hb.trans (hb5.mono hb.size)
    have hs : St' 63 [q, r] [(6, 0), (7, 1)] a5 := ⟨hs.defers, hs.size, hs.sl⟩
    have hT : ∀ t ∈ [(⟨.call 123, [op 0], .val (op 2)⟩ : Ent)], t.Valid (CX 63 [q, r] [clD (strip ql)] w5) := forall_cons (e_trim (pdW rfl hown.dg) (rd rfl)) forall_nil
    refine seg_xd [clD (strip ql)] [(6, 0), (7, 1)] [(5, 1)] 4 2 (one_cons hown.one (one_cons hr.one one_nil)) (oks_cons (clD_ok noT _) oks_nil) hT hs rfl (n := 30) (x := .ret) (by kernel_rfl) rfl rfl (fun a6 w6 v h4 hv hs hb6 => ret_v2 rfl hs.defers h4 hs.sl.1 ⟨v, r, rfl, ?_, ?_, hb.trans (hb6.mono hb.size)⟩)
    · have h0 : nat ql = nat ds / nat es := by simpa using hnq
      rw [← h0, digs_nat hqd]
      exact hv
    · have := hr.below hb6 (Nat.le_refl _)
      simpa using this
  | succ i =>
    have hk : i < ds.length := hk
    have hT : ∀ w1, ∀ t ∈ [(⟨.bin .geq 3, [op 4, vp (ii 0)], .val (vp (.bool true))⟩ : Ent)], t.Valid (CV 63 (vl_do x y q r (i + 1)) w1) := fun w1 => forall_cons (e_geq (x := (i : Int)) (pvW rfl) pvl (decide_eq_true (by omega))) forall_nil
    refine wp_seq (seg_v [(0, 0), (1, 1), (6, 2), (7, 3), (8, 4)] [(0, 0), (1, 1), (6, 2), (7, 3), (8, 4)] (n := 30) (x := .normal) one (hT w1) hs (by kernel_rfl) rfl rfl (fun a5 w5 hs hb5 => ?_))
    have hown := hown.below hb5
    have hr := hr.below hb5 (Nat.le_refl _)
    have hb := hb.trans (hb5.mono hb.size)
    have hrlen : (digs (nat (ds.drop (i + 1)) % nat es)).length ≤ es.length := by
      refine digs_len _ _ (Nat.lt_trans (Nat.mod_lt _ hpos) (nat_bound hem))
    have hs : St' 63 (vl_dc x y q r ds i) [(0, 0), (1, 1), (6, 2), (7, 3), (8, 4)] a5 := ⟨hs.defers, hs.size, hs.sl⟩
    refine wp_seq (wp_block (wp_seq (div_cons x y q r ds _ i hk hds a5 w5 (hx.below hb (Nat.le_refl _)) hy.one hown.one hr (by omega) hs (fun a6 w6 r' hr' hfr hs hb6 => ?_))))
    have hfr : ∀ k, r'.ownBlock = some k → some k ≠ q.ownBlock := fun k hk e => by
      have h1 := hfr k hk
      have h2 := (hown.lt k e.symm).2
      omega
    have hown := hown.below hb6
    have hb := hb.trans (hb6.mono hb.size)
    have hRl : ∀ d ∈ (ds.getD i 0 :: digs (nat (ds.drop (i + 1)) % nat es)), d < 10000 := by
      intro d hd
      rcases List.mem_cons.1 hd with rfl | hd
      · exact hds i
      · exact digs_lt _ d hd
    have hR : nat (strip (ds.getD i 0 :: digs (nat (ds.drop (i + 1)) % nat es))) = ds.getD i 0 + 10000 * (nat (ds.drop (i + 1)) % nat es) := by
      rw [nat_strip]
      show _ + 10000 * nat (digs _) = _
      rw [nat_digs]
    rw [← digs_nat hRl, show nat (ds.getD i 0 :: digs (nat (ds.drop (i + 1)) % nat es)) = ds.getD i 0 + 10000 * (nat (ds.drop (i + 1)) % nat es) by rw [← nat_strip]; exact hR] at hr'
    have hmod := Nat.mod_lt (nat (ds.drop (i + 1))) hpos
    have hdi := hds i
    have hdr := nat_drop ds i
    have hdm := Nat.mod_add_div (nat (ds.drop (i + 1))) (nat es)
    generalize hRR : ds.getD i 0 + 10000 * (nat (ds.drop (i + 1)) % nat es) = R at hr'
    have hRlt : R < 10000 * nat es := by omega
    have hq1 : nat (ds.drop i) / nat es = R / nat es + 10000 * (nat (ds.drop (i + 1)) / nat es) := by
      rw [hdr, ← hdm, show ds.getD i 0 + 10000 * (nat (ds.drop (i + 1)) % nat es + nat es * (nat (ds.drop (i + 1)) / nat es)) = R + nat es * (10000 * (nat (ds.drop (i + 1)) / nat es)) by rw [← hRR]; grind]
      rw [Nat.add_mul_div_left _ _ hpos, hdm]
    have hq2 : nat (ds.drop i) % nat es = R % nat es := by
      rw [hdr, ← hdm, show ds.getD i 0 + 10000 * (nat (ds.drop (i + 1)) % nat es + nat es * (nat (ds.drop (i + 1)) / nat es)) = R + nat es * (10000 * (nat (ds.drop (i + 1)) / nat es)) by rw [← hRR]; grind]
      rw [Nat.add_mul_mod_self_left]
    have hRlen : (digs R).length ≤ es.length + 1 := by
      refine digs_len _ _ (Nat.lt_of_lt_of_le hRlt ?_)
      rw [Nat.pow_succ, Nat.mul_comm]
      exact Nat.mul_le_mul_right _ (Nat.le_of_lt (nat_bound hem))
    have hlow9 : R / nat es < 10000 := Nat.div_lt_of_lt_mul (by rw [Nat.mul_comm]; exact hRlt)
    have onec : ∀ v ∈ [x, y, q, r', ii (i : Int)], v.oneCell' = true := one_cons hx.one (one_cons hy.one (one_cons hown.one (one_cons hr'.one (one_cons rfl one_nil))))
    refine wp_seq (seg_vl (T := []) [(0, 0), (1, 1), (6, 2), (7, 3), (8, 4)] [(0, 0), (1, 1), (6, 2), (7, 3), (8, 4)] [(9, ii 0), (10, ii 10000)] (n := 30) (x := .normal) onec forall_nil hs (by kernel_rfl) rfl rfl (fun a7 w7 hs hll hb7 => ?_))
    have hown := hown.below hb7
    have hr' := hr'.below hb7 (Nat.le_refl _)
    have hb := hb.trans (hb7.mono hb.size)
    have hs : St' 63 (vl_di x y q r' (i : Int) (nat es) (nat (digs R)) 0 10000) [(0, 0), (1, 1), (6, 2), (7, 3), (8, 4), (9, 5), (10, 6)] a7 := ⟨hs.defers, hs.size, hs.sl.1, hs.sl.2.1, hs.sl.2.2.1, hs.sl.2.2.2.1, hs.sl.2.2.2.2.1, hll.1, hll.2.1, trivial⟩
    refine wp_seq (div_inner x y q r' (i : Int) es (digs R) hes (dig_digs R) (by omega) hx.one hown.one a7 w7 (hy.below hb (Nat.le_refl _)) hr' (by rw [nat_digs]; exact hRlt) hs (fun a8 w8 hs hb8 => ?_))
    rw [nat_digs] at hs
    have hown := hown.below hb8
    have hr' := hr'.below hb8 (Nat.le_refl _)
    have hb := hb.trans (hb8.mono hb.size)
    generalize hLL : R / nat es = low at hs hlow9 hq1
    have onee : ∀ v ∈ vl_dr x y q r' i low, v.oneCell' = true := one_cons hx.one (one_cons hy.one (one_cons hown.one (one_cons hr'.one (one_cons rfl (one_cons rfl (one_cons (ptrAt_one _ _) (one_cons rfl one_nil)))))))
    have hs : St' 63 (vl_dr x y q r' i low) [(0, 0), (1, 1), (6, 2), (7, 3), (8, 4), (9, 5)] a8 := ⟨hs.defers, hs.size, hs.sl⟩
    have hT : ∀ t ∈ [(⟨.ix 31, [op 2, op 4], .val (op 6)⟩ : Ent)], t.Valid (CV 63 (vl_dr x y q r' i low) w8) := forall_cons (e_ixW und_nat elem_nat (pvW rfl) hown.dg (pvW rfl) (by omega) (rvW rfl)) forall_nil
    refine wp_seq ?_
    show (Code.region 13 (opsOf (seqL (seqR (seqR (seqR (inner (seqL (seqR lo_div)))))))).toArray false).wp Tryz.prog _ _ _
    refine store_v [(0, 0), (1, 1), (6, 2), (7, 3), (8, 4), (9, 5)] [(0, 0), (1, 1), (6, 2), (7, 3), (8, 4), (9, 5)] 4 (s := 52) (t := 51) (cp := 6) (cv := 5) (z := q) (ds := ql) (j := i) (d := low) onee hT hs (by kernel_rfl) rfl rfl rfl rfl rfl rfl rfl rfl hown hb.size (by omega) (fun a9 w9 hown hs hb9 hkeep => ?_)
    have hr' := hkeep r' _ hr' hfr
    have hb := hb.trans hb9
    have hdm := Nat.div_add_mod R (nat es)
    rw [hLL] at hdm
    have hT : ∀ t ∈ [(⟨.cv 3 23, [op 5], .val (op 7)⟩ : Ent), ⟨.call 87, [op 7], .val (op 8)⟩, ⟨.call 93, [op 1, op 8], .val (op 9)⟩, ⟨.call 95, [op 3, op 9], .val (op 10)⟩], t.Valid (CX 63 (vl_dr x y q r' i low) [clD (digs low), clD (digs (nat es * low)), clD (digs (R - nat es * low))] w9) :=
      forall_cons (e_cv (by kernel_rfl) (by kernel_rfl) (by kernel_rfl) (pvW rfl) (rvW rfl) (by rw [IntKind.wrap_u64]; omega)) (forall_cons (e_small (by omega) (pvW rfl) (rd rfl)) (forall_cons (e_product (es := digs low) (pdW rfl (hy.below hb (Nat.le_refl _))) (pd rfl) hes (dig_digs _) (by omega) (by have := digs_len 1 low (by omega); omega) (rd (by rw [nat_digs]; rfl)))
        (forall_cons (e_rest (ds := digs R) (es := digs (nat es * low)) (pdW rfl hr') (pd rfl) (dig_digs _) (dig_digs _) (by omega) (digs_mono (by omega)) (by rw [nat_digs, nat_digs]; omega) (rd (by rw [nat_digs, nat_digs]; rfl))) forall_nil)))
    refine seg_xd [clD (digs low), clD (digs (nat es * low)), clD (digs (R - nat es * low))] [(0, 0), (1, 1), (6, 2), (7, 3), (8, 4), (9, 5)] [(0, 0), (1, 1), (6, 2), (8, 4)] 7 10 onee (oks_cons (clD_ok noT _) (oks_cons (clD_ok noT _) (oks_cons (clD_ok noT _) oks_nil))) hT hs rfl (n := 30) (x := .normal) (by kernel_rfl) rfl rfl (fun a10 w10 r2 h7 hr2 hs hb10 => ?_)
    have hown := hown.below hb10
    have hb := hb.trans (hb10.mono hb.size)
    show (seqR (seqR lo_div)).wp Tryz.prog _ _ _
    have one2 : ∀ v ∈ vl_do x y q r2 (i + 1), v.oneCell' = true := one_cons hx.one (one_cons hy.one (one_cons hown.one (one_cons hr2.one (one_cons rfl (one_cons rfl one_nil)))))
    have hs : St' 63 (vl_do x y q r2 (i + 1)) [(0, 0), (1, 1), (6, 2), (7, 3), (8, 4)] a10 := ⟨hs.defers, hs.size, hs.sl.1, hs.sl.2.1, hs.sl.2.2.1, h7, hs.sl.2.2.2.1, trivial⟩
    have hT : ∀ t ∈ [(⟨.bin .sub 3, [op 4, vp (ii 1)], .val (op 5)⟩ : Ent)], t.Valid (CV 63 (vl_do x y q r2 (i + 1)) w10) := forall_cons (e_sub (x := (i : Int)) (u := idx i) (by cases i with | zero => rfl | succ j => show ((j + 1 : Nat) : Int) - 1 = (j : Int); omega) (pvW rfl) pvl (rvW rfl) (by cases i with | zero => decide | succ j => show _ ≤ (j : Int) ∧ (j : Int) ≤ _; omega)) forall_nil
    refine seg_v [(0, 0), (1, 1), (6, 2), (7, 3), (8, 4)] [(0, 0), (1, 1), (6, 2), (7, 3), (8, 5)] (n := 30) (x := .normal) one2 hT hs (by kernel_rfl) rfl rfl (fun a11 w11 hs hb11 => ?_)
    refine ⟨i, ⟨r2, ql.set i low, by omega, by rw [List.length_set]; exact hql, mem_set_lt hqd hlow9, ?_, ?_, ⟨hs.defers, hs.size, hs.sl⟩, hown.below hb11, hb.trans (hb11.mono hb.size)⟩, Nat.lt_succ_self i⟩
    · rw [hq1, ← hnq, nat_drop (ql.set i low) i, List.drop_set_of_lt (by omega)]
      congr 1
      simp [List.getD, hql, hk]
    · rw [hq2, show R % nat es = R - nat es * low by omega]
      exact hr2.below hb11 (Nat.le_refl _)
end Sym
open Go Go.RowKit Go.Proofs Lim
namespace Sym
section
variable {csz : List Nat} {numc : List Bool} {okT : List Nat} {nt : Nat} {cl : List Cl} {w0 : World} {p1 p2 : Pat} {c1 c2 : Nat} {ds es : List Nat}
theorem e_divide (h1 : PD csz numc okT nt cl w0 p1 ds) (h2 : PD csz numc okT nt cl w0 p2 es) (hds : Dig ds) (hes : Dig es) (hem : ∀ d ∈ es, d < 10000) (hl1 : ds.length < 10000000) (hl2 : es.length < 10000000) (hpos : 0 < nat es) (h3 : cl[c1]? = some (clD (digs (nat ds / nat es)))) (h4 : cl[c2]? = some (clD (digs (nat ds % nat es)))) :
    V csz numc okT nt cl w0 (.call 100) [p1, p2] (.tup [op c1, op c2]) := by
  refine ⟨enters_of Tryz.func100 (by kernel_rfl) rfl, fun w vs hb hvs => ?_⟩
  obtain ⟨v1, _, rfl, h5, v2, _, rfl, h6, rfl⟩ := hvs
  refine (divide_ok v1 v2 ds es w (h1 _ _ hb h5) (h2 _ _ hb h6) hds hes hem hl1 hl2 hpos).mono ?_
  rintro e w' ⟨v, u, rfl, hv, hu, hb'⟩
  exact ⟨_, rfl, ⟨[v, u], ⟨_, _, rfl, (op_isD h3).2 hv, _, _, rfl, (op_isD h4).2 hu, rfl⟩, rfl⟩, hb'⟩
end
noncomputable def b_gcd : Code := bodyOf Tryz.f124
noncomputable def l_gcd : Code := inner (inner (seqL (seqR b_gcd)))
theorem digs_pos_len {n : Nat} : 0 < (digs n).length ↔ n ≠ 0 := by
  constructor
  · rintro h rfl
    rw [digs_zero] at h; simp at h
  · intro h
    rw [digs_pos h]; simp
theorem common_ok (x y : Value) (m n : Nat) (w : World) (hx : Dg w x (digs m)) (hy : Dg w y (digs n)) (hl1 : (digs m).length < 10000000) (hl2 : (digs n).length < 10000000) : Calls Tryz.prog 124 #[x, y] w (fun e w' => ∃ v, e = .returned v ∧ Dg w' v (digs (Nat.gcd m n)) ∧ Below w.heap.size w w') := by
  refine calls_v2 (nt := 19) (f := 124) Tryz.func124 (c := .seq (seqL b_gcd) (.seq (.block 0 (.loop l_gcd)) (seqR (seqR b_gcd)))) rfl rfl rfl x y (fun a hs => ?_)
  refine wp_seq (seg_v (T := []) [(0, 0), (1, 1)] [(0, 0), (1, 1)] (n := 30) (x := .normal) (one_cons hx.one (one_cons hy.one one_nil)) forall_nil hs (by kernel_rfl) rfl rfl (fun a1 w1 hs hb1 => ?_))
  refine wp_seq (while_is (Θ := Nat × Nat) (fun θ a w1 => ∃ x y, Dg w1 x (digs θ.1) ∧ Dg w1 y (digs θ.2) ∧ (digs θ.1).length < 10000000 ∧ (digs θ.2).length < 10000000 ∧ Nat.gcd θ.1 θ.2 = Nat.gcd m n ∧ St' 19 [x, y] [(0, 0), (1, 1)] a ∧ Below w.heap.size w w1) (fun θ => θ.2) ?_ (m, n) ⟨x, y, hx.below hb1 (Nat.le_refl _), hy.below hb1 (Nat.le_refl _), hl1, hl2, rfl, hs, hb1⟩)
  rintro ⟨m', n'⟩ a w2 ⟨x, y, hx, hy, hl1, hl2, hg, hs, hb⟩
  have hg : Nat.gcd m' n' = Nat.gcd m n := hg
  have hs : St' 19 [x, y, ii ((digs n').length : Int)] [(0, 0), (1, 1)] a := ⟨hs.defers, hs.size, hs.sl⟩
  have one : ∀ v ∈ [x, y, ii ((digs n').length : Int)], v.oneCell' = true := one_cons hx.one (one_cons hy.one (one_cons rfl one_nil))
  by_cases h0 : n' = 0
  · subst h0
    have hT : ∀ t ∈ [(⟨.blt .len [31] 3, [op 1], .val (op 2)⟩ : Ent), ⟨.bin .gtr 3, [op 2, vp (ii 0)], .val (vp (.bool false))⟩], t.Valid (CV 19 [x, y, ii ((digs 0).length : Int)] w2) := forall_cons (e_len und_nat (pdW rfl hy) (rvW rfl)) (forall_cons (e_gtr (pvW rfl) pvl (decide_eq_false (by rw [digs_zero]; decide))) forall_nil)
    refine wp_seq (seg_v [(0, 0), (1, 1)] [(0, 0)] (n := 30) (x := .exit 0) one hT hs (by kernel_rfl) rfl rfl (fun a5 w5 hs hb5 => ?_))
    refine seg_v (T := []) [(0, 0)] [(4, 0)] (n := 30) (x := .ret) one forall_nil hs (by kernel_rfl) rfl rfl (fun a6 w6 hs hb6 => ret_v rfl hs.defers hs.sl.1 ⟨x, rfl, ?_, (hb.trans (hb5.mono hb.size)).trans (hb6.mono (Nat.le_trans hb.size hb5.size))⟩)
    rw [← hg, Nat.gcd_zero_right]
    exact (hx.below hb5 (Nat.le_refl _)).below hb6 (Nat.le_refl _)
  · have hpos : 0 < n' := Nat.pos_of_ne_zero h0
    have hlen := digs_pos_len.2 h0
    have hT : ∀ t ∈ [(⟨.blt .len [31] 3, [op 1], .val (op 2)⟩ : Ent), ⟨.bin .gtr 3, [op 2, vp (ii 0)], .val (vp (.bool true))⟩, ⟨.call 100, [op 0, op 1], .tup [op 3, op 4]⟩], t.Valid (CX 19 [x, y, ii ((digs n').length : Int)] [clD (digs (m' / n')), clD (digs (m' % n'))] w2) :=
      forall_cons (e_len und_nat (pdW rfl hy) (rvW rfl)) (forall_cons (e_gtr (pvW rfl) pvl (decide_eq_true (by omega))) (forall_cons (e_divide (ds := digs m') (es := digs n') (pdW rfl hx) (pdW rfl hy) (dig_digs _) (dig_digs _) (digs_lt _) hl1 hl2 (by rw [nat_digs]; exact hpos) (by rw [nat_digs, nat_digs]; rfl) (by rw [nat_digs, nat_digs]; rfl)) forall_nil))
    refine seg_xd [clD (digs (m' / n')), clD (digs (m' % n'))] [(0, 0), (1, 1)] [(0, 1)] 1 4 one (oks_cons (clD_ok noT _) (oks_cons (clD_ok noT _) oks_nil)) hT hs rfl (n := 30) (x := .normal) (by kernel_rfl) rfl rfl (fun a5 w5 r h1 hr hs hb5 => ?_)
    have hml := Nat.mod_lt m' hpos
    refine ⟨(n', m' % n'), ⟨y, r, hy.below hb5 (Nat.le_refl _), hr, hl2, Nat.lt_of_le_of_lt (digs_mono (Nat.le_of_lt hml)) hl2, ?_, ⟨hs.defers, hs.size, hs.sl.1, h1, trivial⟩, hb.trans (hb5.mono hb.size)⟩, hml⟩
    rw [← hg]
    show Nat.gcd n' (m' % n') = Nat.gcd m' n'
    rw [Nat.gcd_comm m' n', Nat.gcd_rec n' m', Nat.gcd_comm]
section
variable {csz : List Nat} {numc : List Bool} {okT : List Nat} {nt : Nat} {cl : List Cl} {w0 : World} {p1 p2 : Pat} {res : RPat} {m n : Nat}
theorem e_common (h1 : PD csz numc okT nt cl w0 p1 (digs m)) (h2 : PD csz numc okT nt cl w0 p2 (digs n)) (hl1 : (digs m).length < 10000000) (hl2 : (digs n).length < 10000000) (h3 : RD csz numc okT nt cl w0 res (digs (Nat.gcd m n))) : V csz numc okT nt cl w0 (.call 124) [p1, p2] res := by
  refine ⟨enters_of Tryz.func124 (by kernel_rfl) rfl, fun w vs hb hvs => ?_⟩
  obtain ⟨v1, _, rfl, h4, v2, _, rfl, h5, rfl⟩ := hvs
  refine (common_ok v1 v2 m n w (h1 _ _ hb h4) (h2 _ _ hb h5) hl1 hl2).mono ?_
  rintro e w' ⟨v, rfl, hv, hb'⟩
  exact ⟨_, rfl, h3 w' v hv, hb'⟩
end
end Sym
open Go Go.RowKit Go.Proofs Lim
namespace Sym
def RatP (w : World) (v : Value) (neg : Bool) (m k : Nat) : Prop := ∃ a b, v = .agg #[.bool neg, a, b] ∧ Dg w a (digs m) ∧ Dg w b (digs k)
theorem ratT : ∀ t ∈ [33], t ≠ 3 := fun t h => by
  have : t = 33 := by simpa using h
  subst this
  decide
abbrev cl_make (m k : Nat) : List Cl := [clD (digs m), clD (digs k), clD (digs (Nat.gcd m k)), clD (digs (m / Nat.gcd m k)), clD (digs (m % Nat.gcd m k)), clD (digs (k / Nat.gcd m k)), clD (digs (k % Nat.gcd m k)), clV (ii ((digs (m / Nat.gcd m k)).length : Int))]
noncomputable abbrev C_make (m k : Nat) (w : World) : Ctx := mkC [1, 1, 1, 1, 1, 1, 1, 1] [false, false, false, false, false, false, false, true] [33] 36 (cl_make m k) w
def t_make (b : Bool) : List Ent := [⟨.call 124, [op 0, op 1], .val (op 2)⟩, ⟨.call 100, [op 0, op 2], .tup [op 3, op 4]⟩, ⟨.call 100, [op 1, op 2], .tup [op 5, op 6]⟩, ⟨.blt .len [31] 3, [op 3], .val (op 7)⟩, ⟨.bin .gtr 3, [op 7, vp (ii 0)], .val (vp (.bool b))⟩]
theorem make_ok (neg : Bool) (x y : Value) (m k : Nat) (w : World) (hx : Dg w x (digs m)) (hy : Dg w y (digs k)) (hk : 0 < k) (hl1 : (digs m).length < 10000000) (hl2 : (digs k).length < 10000000) : Calls Tryz.prog 82 #[.bool neg, x, y] w (fun e w' => ∃ v, e = .returned v ∧ RatP w' v (neg && decide (m ≠ 0)) (m / Nat.gcd m k) (k / Nat.gcd m k) ∧ Below w.heap.size w w') := by
  have hC : (C_make m k w).Ok := mkC_ok (oks_cons (clD_ok ratT _) (oks_cons (clD_ok ratT _) (oks_cons (clD_ok ratT _) (oks_cons (clD_ok ratT _) (oks_cons (clD_ok ratT _) (oks_cons (clD_ok ratT _) (oks_cons (clD_ok ratT _) (oks_cons (clVi_ok _) oks_nil)))))))) rfl rfl
  have hg : 0 < Nat.gcd m k := Nat.gcd_pos_of_pos_right m hk
  have hgl : (digs (Nat.gcd m k)).length < 10000000 := Nat.lt_of_le_of_lt (digs_mono (Nat.le_of_dvd hk (Nat.gcd_dvd_right m k))) hl2
  have hm0 : (0 < (digs (m / Nat.gcd m k)).length) ↔ m ≠ 0 := by
    rw [digs_pos_len]
    constructor
    · rintro h rfl
      rw [Nat.zero_div] at h
      exact h rfl
    · intro h h'
      have := Nat.div_eq_zero_iff.1 h'
      have := Nat.le_of_dvd (Nat.pos_of_ne_zero h) (Nat.gcd_dvd_left m k)
      omega
  have hT : ∀ b, decide (m ≠ 0) = b → ∀ t ∈ t_make b, t.Valid (C_make m k w) := fun b hb =>
    forall_cons (e_common (pd rfl) (pd rfl) hl1 hl2 (rd rfl)) (forall_cons (e_divide (ds := digs m) (es := digs (Nat.gcd m k)) (pd rfl) (pd rfl) (dig_digs _) (dig_digs _) (digs_lt _) hl1 hgl (by rw [nat_digs]; exact hg) (by rw [nat_digs, nat_digs]; rfl) (by rw [nat_digs, nat_digs]; rfl))
      (forall_cons (e_divide (ds := digs k) (es := digs (Nat.gcd m k)) (pd rfl) (pd rfl) (dig_digs _) (dig_digs _) (digs_lt _) hl2 hgl (by rw [nat_digs]; exact hg) (by rw [nat_digs, nat_digs]; rfl) (by rw [nat_digs, nat_digs]; rfl))
        (forall_cons (e_len und_nat (pd rfl) (rv rfl)) (forall_cons (e_gtr (pv rfl) pvl (by rw [← hb]; congr 1; apply propext; rw [← hm0]; constructor <;> intro h <;> omega)) forall_nil))))
  have hv : ∀ neg, PatsAre (C_make m k w) w [vp (.bool neg), op 0, op 1] [.bool neg, x, y] := fun neg => ⟨_, _, rfl, vp_is.2 rfl, _, _, rfl, (op_isD rfl).2 hx, _, _, rfl, (op_isD rfl).2 hy, rfl⟩
  have fin : ∀ b w' v, (Pat.agg [.lit (.bool b), .cls 3 1, .cls 5 1]).is (C_make m k w) w' v → RatP w' v b (m / Nat.gcd m k) (k / Nat.gcd m k) := by
    rintro b w' v ⟨vs, ⟨xs, ys, rfl, rfl, xs2, ys2, rfl, ⟨f, hE, rfl⟩, xs3, ys3, rfl, ⟨g, hE', rfl⟩, h5⟩, rfl⟩
    rw [show ys3 = [] from h5]
    exact ⟨f 0, g 0, by simp [List.range_succ], hE, hE'⟩
  cases neg with
  | false =>
    refine (run_mk hC (hT _ rfl) 82 Tryz.f82 [vp (.bool false), op 0, op 1] (.val (.agg [.lit (.bool false), .cls 3 1, .cls 5 1])) 60 Tryz.func82 rfl rfl rfl (by kernel_rfl) _ (hv false)).mono ?_
    rintro e w' ⟨v, rfl, hx, hb⟩
    exact ⟨v, rfl, fin _ _ _ hx, hb⟩
  | true =>
    by_cases h0 : m = 0
    · refine (run_mk hC (hT false (decide_eq_false (by simpa using h0))) 82 Tryz.f82 [vp (.bool true), op 0, op 1] (.val (.agg [.lit (.bool false), .cls 3 1, .cls 5 1])) 60 Tryz.func82 rfl rfl rfl (by kernel_rfl) _ (hv true)).mono ?_
      rintro e w' ⟨v, rfl, hx, hb⟩
      refine ⟨v, rfl, ?_, hb⟩
      rw [show (true && decide (m ≠ 0)) = false by simp [h0]]
      exact fin _ _ _ hx
    · refine (run_mk hC (hT true (decide_eq_true h0)) 82 Tryz.f82 [vp (.bool true), op 0, op 1] (.val (.agg [.lit (.bool true), .cls 3 1, .cls 5 1])) 60 Tryz.func82 rfl rfl rfl (by kernel_rfl) _ (hv true)).mono ?_
      rintro e w' ⟨v, rfl, hx, hb⟩
      refine ⟨v, rfl, ?_, hb⟩
      rw [show (true && decide (m ≠ 0)) = true by simp [h0]]
      exact fin _ _ _ hx
end Sym
open Go Go.RowKit Go.Proofs Lim
namespace Sym
section
variable {csz : List Nat} {numc : List Bool} {okT : List Nat} {nt : Nat} {cl : List Cl} {w0 : World} {p1 p2 p3 : Pat} {res : RPat} {c1 c2 c3 m k : Nat} {neg s t b : Bool}
abbrev rp (c1 c2 c3 : Nat) : Pat := .agg [.cls c1 1, .cls c2 1, .cls c3 1]
theorem rp_is {w : World} {v : Value} (h1 : cl[c1]? = some (clV (.bool neg))) (h2 : cl[c2]? = some (clD (digs m))) (h3 : cl[c3]? = some (clD (digs k))) : (rp c1 c2 c3).is (mkC csz numc okT nt cl w0) w v ↔ RatP w v neg m k := by
  constructor
  · rintro ⟨vs, ⟨xs, ys, rfl, ⟨e, hE0, rfl⟩, xs2, ys2, rfl, ⟨f, hE, rfl⟩, xs3, ys3, rfl, ⟨g, hE', rfl⟩, h5⟩, rfl⟩
    rw [show ys3 = [] from h5]
    simp only [mkC, h1] at hE0
    simp only [mkC, h2] at hE
    simp only [mkC, h3] at hE'
    have hE0 : e 0 = .bool neg := hE0
    exact ⟨f 0, g 0, by simp [List.range_succ, hE0], hE, hE'⟩
  · rintro ⟨a, b, rfl, ha, hb⟩
    refine ⟨[.bool neg, a, b], ⟨[.bool neg], [a, b], rfl, ⟨fun _ => .bool neg, ?_, rfl⟩, [a], [b], rfl, ⟨fun _ => a, ?_, rfl⟩, [b], [], rfl, ⟨fun _ => b, ?_, rfl⟩, rfl⟩, rfl⟩
    · simp only [mkC, h1]; rfl
    · simp only [mkC, h2]; exact ha
    · simp only [mkC, h3]; exact hb
theorem e_neqb (h1 : PV csz numc okT nt cl w0 p1 (.bool s)) (h2 : PV csz numc okT nt cl w0 p2 (.bool t)) (h3 : RV csz numc okT nt cl w0 res (.bool (s != t))) : V csz numc okT nt cl w0 (.bin .neq 4) [p1, p2] res := by
  intro w ρ oo xs ho hb hvs
  obtain ⟨a, b, u, hop, rfl⟩ := hd_bin ho
  obtain ⟨v1, _, e1, h4, v2, _, e2, h5, e3⟩ := hvs
  obtain rfl := h1 _ _ h4
  obtain rfl := h2 _ _ h5
  subst e2
  simp only [List.map_cons, List.map_nil, List.cons.injEq] at e1
  obtain ⟨ea, eb, _⟩ := e1
  refine ⟨_, w, ?_, h3 w, Below.refl _ _⟩
  show (execOp ρ oo).run Tryz.prog w = _
  have hg : (eqGuard .neq 4 a b (.bool s) (.bool t)).run Tryz.prog w = .ok () w := rfl
  have hr : (Go.binOp .neq 4 (.bool s) (.bool t)).run Tryz.prog w = .ok (.bool (s != t)) w := by
    cases s <;> cases t <;> exact ev_run (by kernel_rfl) w
  simp only [execOp, hop, ea, eb, Sem.run_bind, hg, hr, Result.andThen_ok]
  rfl
theorem e_make (h1 : PV csz numc okT nt cl w0 p1 (.bool neg)) (h2 : PD csz numc okT nt cl w0 p2 (digs m)) (h3 : PD csz numc okT nt cl w0 p3 (digs k)) (hk : 0 < k) (hl1 : (digs m).length < 10000000) (hl2 : (digs k).length < 10000000)
    (g1 : cl[c1]? = some (clV (.bool (neg && decide (m ≠ 0))))) (g2 : cl[c2]? = some (clD (digs (m / Nat.gcd m k)))) (g3 : cl[c3]? = some (clD (digs (k / Nat.gcd m k)))) : V csz numc okT nt cl w0 (.call 82) [p1, p2, p3] (.val (rp c1 c2 c3)) := by
  refine ⟨enters_of Tryz.func82 (by kernel_rfl) rfl, fun w vs hb hvs => ?_⟩
  obtain ⟨v1, _, rfl, h4, v2, _, rfl, h5, v3, _, rfl, h6, rfl⟩ := hvs
  obtain rfl := h1 _ _ h4
  refine (make_ok neg v2 v3 m k w (h2 _ _ hb h5) (h3 _ _ hb h6) hk hl1 hl2).mono ?_
  rintro e w' ⟨v, rfl, hv, hb'⟩
  exact ⟨_, rfl, (rp_is g1 g2 g3).2 hv, hb'⟩
end
abbrev cl_mul (s t : Bool) (a b c d : Nat) : List Cl := [clV (.bool s), clD (digs a), clD (digs b), clV (.bool t), clD (digs c), clD (digs d), clV (.bool (s != t)), clD (digs (a * c)), clD (digs (b * d)), clV (.bool ((s != t) && decide (a * c ≠ 0))), clD (digs (a * c / Nat.gcd (a * c) (b * d))), clD (digs (b * d / Nat.gcd (a * c) (b * d)))]
noncomputable abbrev C_mul (s t : Bool) (a b c d : Nat) (w : World) : Ctx := mkC [1, 1, 1, 1, 1, 1, 1, 1, 1, 1, 1, 1] [true, false, false, true, false, false, true, false, false, true, false, false] [33] 21 (cl_mul s t a b c d) w
theorem clVb_ok {okT : List Nat} {B : Nat} (b : Bool) : (clV (.bool b)).Ok okT B := clV_ok rfl
def t_mul : List Ent := [⟨.bin .neq 4, [op 0, op 3], .val (op 6)⟩, ⟨.call 93, [op 1, op 4], .val (op 7)⟩, ⟨.call 93, [op 2, op 5], .val (op 8)⟩, ⟨.call 82, [op 6, op 7, op 8], .val (rp 9 10 11)⟩]
theorem mul_ok (s t : Bool) (x y : Value) (a b c d : Nat) (w : World) (hx : RatP w x s a b) (hy : RatP w y t c d) (hb : 0 < b) (hd : 0 < d) (h1 : (digs a).length < 1000000) (h2 : (digs b).length < 1000000) (h3 : (digs c).length < 1000000) (h4 : (digs d).length < 1000000) (h5 : (digs (a * c)).length < 10000000) (h6 : (digs (b * d)).length < 10000000) :
    Calls Tryz.prog 30 #[x, y] w (fun e w' => ∃ v, e = .returned v ∧ RatP w' v ((s != t) && decide (a * c ≠ 0)) (a * c / Nat.gcd (a * c) (b * d)) (b * d / Nat.gcd (a * c) (b * d)) ∧ Below w.heap.size w w') := by
  have hC : (C_mul s t a b c d w).Ok := mkC_ok (oks_cons (clVb_ok _) (oks_cons (clD_ok ratT _) (oks_cons (clD_ok ratT _) (oks_cons (clVb_ok _) (oks_cons (clD_ok ratT _) (oks_cons (clD_ok ratT _) (oks_cons (clVb_ok _) (oks_cons (clD_ok ratT _) (oks_cons (clD_ok ratT _) (oks_cons (clVb_ok _) (oks_cons (clD_ok ratT _) (oks_cons (clD_ok ratT _) oks_nil)))))))))))) rfl rfl
  have hT : ∀ t' ∈ t_mul, t'.Valid (C_mul s t a b c d w) :=
    forall_cons (e_neqb (pv rfl) (pv rfl) (rv rfl)) (forall_cons (e_product (ds := digs a) (es := digs c) (pd rfl) (pd rfl) (dig_digs _) (dig_digs _) (by omega) (by omega) (rd (by rw [nat_digs, nat_digs]; rfl))) (forall_cons (e_product (ds := digs b) (es := digs d) (pd rfl) (pd rfl) (dig_digs _) (dig_digs _) (by omega) (by omega) (rd (by rw [nat_digs, nat_digs]; rfl)))
      (forall_cons (e_make (m := a * c) (k := b * d) (pv rfl) (pd rfl) (pd rfl) (Nat.mul_pos hb hd) h5 h6 rfl rfl rfl) forall_nil)))
  refine (run_mk hC hT 30 Tryz.f30 [rp 0 1 2, rp 3 4 5] (.val (rp 9 10 11)) 60 Tryz.func30 rfl rfl rfl (by kernel_rfl) [x, y] ⟨_, _, rfl, (rp_is rfl rfl rfl).2 hx, _, _, rfl, (rp_is rfl rfl rfl).2 hy, rfl⟩).mono ?_
  rintro e w' ⟨v, rfl, hv, hb'⟩
  exact ⟨v, rfl, (rp_is rfl rfl rfl).1 hv, hb'⟩
end Sym
open Go Go.RowKit Go.Proofs Lim
namespace Sym
section
variable {csz : List Nat} {numc : List Bool} {okT : List Nat} {nt : Nat} {cl : List Cl} {w0 : World} {p1 p2 p3 : Pat} {res : RPat} {ds es : List Nat} {s t b : Bool}
theorem e_sum (h1 : PD csz numc okT nt cl w0 p1 ds) (h2 : PD csz numc okT nt cl w0 p2 es) (hds : Dig ds) (hes : Dig es) (hl1 : ds.length < 100000000) (hl2 : es.length < 100000000) (h3 : RD csz numc okT nt cl w0 res (digs (nat ds + nat es))) : V csz numc okT nt cl w0 (.call 94) [p1, p2] res := by
  refine ⟨enters_of Tryz.func94 (by kernel_rfl) rfl, fun w vs hb hvs => ?_⟩
  obtain ⟨v1, _, rfl, h4, v2, _, rfl, h5, rfl⟩ := hvs
  refine (sum_ok v1 v2 ds es w (h1 _ _ hb h4) (h2 _ _ hb h5) hds hes hl1 hl2).mono ?_
  rintro e w' ⟨v, rfl, hv, hb'⟩
  exact ⟨_, rfl, h3 w' v hv, hb'⟩
theorem e_eqb (h1 : PV csz numc okT nt cl w0 p1 (.bool s)) (h2 : PV csz numc okT nt cl w0 p2 (.bool t)) (hb : (s == t) = b) : V csz numc okT nt cl w0 (.bin .eql 4) [p1, p2] (.val (vp (.bool b))) := by
  intro w ρ oo xs ho hbw hvs
  obtain ⟨a, c, u, hop, rfl⟩ := hd_bin ho
  obtain ⟨v1, _, e1, h4, v2, _, e2, h5, e3⟩ := hvs
  obtain rfl := h1 _ _ h4
  obtain rfl := h2 _ _ h5
  subst e2
  simp only [List.map_cons, List.map_nil, List.cons.injEq] at e1
  obtain ⟨ea, eb, _⟩ := e1
  subst hb
  refine ⟨_, w, ?_, vp_r _ _ _, Below.refl _ _⟩
  show (execOp ρ oo).run Tryz.prog w = _
  have hg : (eqGuard .eql 4 a c (.bool s) (.bool t)).run Tryz.prog w = .ok () w := rfl
  have hr : (Go.binOp .eql 4 (.bool s) (.bool t)).run Tryz.prog w = .ok (.bool (s == t)) w := by
    cases s <;> cases t <;> exact ev_run (by kernel_rfl) w
  simp only [execOp, hop, ea, eb, Sem.run_bind, hg, hr, Result.andThen_ok]
  rfl
end
abbrev cl_add (s t : Bool) (a b c d : Nat) (sg : Bool) (S : Nat) : List Cl := [clV (.bool s), clD (digs a), clD (digs b), clV (.bool t), clD (digs c), clD (digs d), clD (digs (a * d)), clD (digs (c * b)), clD (digs (b * d)), clD (digs S), clV (.bool (sg && decide (S ≠ 0))), clD (digs (S / Nat.gcd S (b * d))), clD (digs (b * d / Nat.gcd S (b * d))), clV (ii (cmpN (a * d) (c * b)))]
noncomputable abbrev C_add (s t : Bool) (a b c d : Nat) (sg : Bool) (S : Nat) (w : World) : Ctx := mkC [1, 1, 1, 1, 1, 1, 1, 1, 1, 1, 1, 1, 1, 1] [true, false, false, true, false, false, false, false, false, false, true, false, false, true] [33] 53 (cl_add s t a b c d sg S) w
def t_add0 (e : Bool) : List Ent := [⟨.call 93, [op 1, op 5], .val (op 6)⟩, ⟨.call 93, [op 4, op 2], .val (op 7)⟩, ⟨.call 93, [op 2, op 5], .val (op 8)⟩, ⟨.bin .eql 4, [op 0, op 3], .val (vp (.bool e))⟩, ⟨.call 89, [op 6, op 7], .val (op 13)⟩]
def t_add1 : List Ent := [⟨.call 94, [op 6, op 7], .val (op 9)⟩, ⟨.call 82, [op 0, op 9, op 8], .val (rp 10 11 12)⟩]
def t_add2 : List Ent := [⟨.bin .geq 3, [op 13, vp (ii 0)], .val (vp (.bool true))⟩, ⟨.call 95, [op 6, op 7], .val (op 9)⟩, ⟨.call 82, [op 0, op 9, op 8], .val (rp 10 11 12)⟩]
def t_add3 : List Ent := [⟨.bin .geq 3, [op 13, vp (ii 0)], .val (vp (.bool false))⟩, ⟨.call 95, [op 7, op 6], .val (op 9)⟩, ⟨.call 82, [op 3, op 9, op 8], .val (rp 10 11 12)⟩]
def addS (s t : Bool) (m n : Nat) : Bool × Nat := if s = t then (s, m + n) else if n ≤ m then (s, m - n) else (t, n - m)
theorem cmpN_ge {a b : Nat} : cmpN a b ≥ 0 ↔ b ≤ a := by unfold cmpN; split <;> (try split) <;> omega
theorem add_ok (s t : Bool) (x y : Value) (a b c d : Nat) (w : World) (hx : RatP w x s a b) (hy : RatP w y t c d) (hb : 0 < b) (hd : 0 < d) (h1 : (digs a).length < 1000000) (h2 : (digs b).length < 1000000) (h3 : (digs c).length < 1000000) (h4 : (digs d).length < 1000000) (h5 : (digs (a * d)).length < 10000000) (h6 : (digs (b * d)).length < 10000000) (h7 : (digs (c * b)).length < 10000000) (h8 : (digs (a * d + c * b)).length < 10000000)
    {sg : Bool} {S : Nat} (hS : addS s t (a * d) (c * b) = (sg, S)) :
    Calls Tryz.prog 26 #[x, y] w (fun e w' => ∃ v, e = .returned v ∧ RatP w' v (sg && decide (S ≠ 0)) (S / Nat.gcd S (b * d)) (b * d / Nat.gcd S (b * d)) ∧ Below w.heap.size w w') := by
  have hC : (C_add s t a b c d sg S w).Ok := mkC_ok (oks_cons (clVb_ok _) (oks_cons (clD_ok ratT _) (oks_cons (clD_ok ratT _) (oks_cons (clVb_ok _) (oks_cons (clD_ok ratT _) (oks_cons (clD_ok ratT _) (oks_cons (clD_ok ratT _) (oks_cons (clD_ok ratT _) (oks_cons (clD_ok ratT _) (oks_cons (clD_ok ratT _) (oks_cons (clVb_ok _) (oks_cons (clD_ok ratT _) (oks_cons (clD_ok ratT _) (oks_cons (clVi_ok _) oks_nil)))))))))))))) rfl rfl
  have hT0 : ∀ e, (s == t) = e → ∀ t' ∈ t_add0 e, t'.Valid (C_add s t a b c d sg S w) := fun e he =>
    forall_cons (e_product (ds := digs a) (es := digs d) (pd rfl) (pd rfl) (dig_digs _) (dig_digs _) (by omega) (by omega) (rd (by rw [nat_digs, nat_digs]; rfl))) (forall_cons (e_product (ds := digs c) (es := digs b) (pd rfl) (pd rfl) (dig_digs _) (dig_digs _) (by omega) (by omega) (rd (by rw [nat_digs, nat_digs]; rfl))) (forall_cons (e_product (ds := digs b) (es := digs d) (pd rfl) (pd rfl) (dig_digs _) (dig_digs _) (by omega) (by omega) (rd (by rw [nat_digs, nat_digs]; rfl)))
      (forall_cons (e_eqb (pv rfl) (pv rfl) he) (forall_cons (e_order (ds := digs (a * d)) (es := digs (c * b)) (pd rfl) (pd rfl) (dig_digs _) (dig_digs _) (by rw [nat_digs, nat_digs]; exact rv rfl)) forall_nil))))
  have app : ∀ {l1 l2 : List Ent}, (∀ t' ∈ l1, t'.Valid (C_add s t a b c d sg S w)) → (∀ t' ∈ l2, t'.Valid (C_add s t a b c d sg S w)) → ∀ t' ∈ l1 ++ l2, t'.Valid (C_add s t a b c d sg S w) := fun q1 q2 t' ht => (List.mem_append.1 ht).elim (q1 t') (q2 t')
  have hv : PatsAre (C_add s t a b c d sg S w) w [rp 0 1 2, rp 3 4 5] [x, y] := ⟨_, _, rfl, (rp_is rfl rfl rfl).2 hx, _, _, rfl, (rp_is rfl rfl rfl).2 hy, rfl⟩
  have hbd : 0 < b * d := Nat.mul_pos hb hd
  have hSl : S ≤ a * d + c * b := by
    unfold addS at hS
    split at hS
    · injection hS with _ h; omega
    · split at hS <;> (injection hS with _ h; omega)
  have hSl : (digs S).length < 10000000 := Nat.lt_of_le_of_lt (digs_mono hSl) h8
  have fin : ∀ e w', (∃ v, e = Ending.returned v ∧ RPat.is (C_add s t a b c d sg S w) w' (.val (rp 10 11 12)) v ∧ Below w.heap.size w w') → ∃ v, e = .returned v ∧ RatP w' v (sg && decide (S ≠ 0)) (S / Nat.gcd S (b * d)) (b * d / Nat.gcd S (b * d)) ∧ Below w.heap.size w w' := by
    rintro e w' ⟨v, rfl, hv, hb'⟩
    exact ⟨v, rfl, (rp_is rfl rfl rfl).1 hv, hb'⟩
  unfold addS at hS
  by_cases hst : s = t
  · rw [if_pos hst] at hS
    injection hS with g1 g2
    subst g1 g2
    have hT : ∀ t' ∈ t_add1, t'.Valid (C_add s t a b c d s (a * d + c * b) w) := forall_cons (e_sum (ds := digs (a * d)) (es := digs (c * b)) (pd rfl) (pd rfl) (dig_digs _) (dig_digs _) (by omega) (by omega) (rd (by rw [nat_digs, nat_digs]; rfl))) (forall_cons (e_make (m := a * d + c * b) (k := b * d) (pv rfl) (pd rfl) (pd rfl) hbd hSl h6 rfl rfl rfl) forall_nil)
    exact (run_mk hC (app (hT0 true (by simp [hst])) hT) 26 Tryz.f26 [rp 0 1 2, rp 3 4 5] (.val (rp 10 11 12)) 90 Tryz.func26 rfl rfl rfl (by kernel_rfl) [x, y] hv).mono fin
  · rw [if_neg hst] at hS
    by_cases hle : c * b ≤ a * d
    · rw [if_pos hle] at hS
      injection hS with g1 g2
      subst g1 g2
      have hT : ∀ t' ∈ t_add2, t'.Valid (C_add s t a b c d s (a * d - c * b) w) := forall_cons (e_geq (pv rfl) pvl (decide_eq_true (cmpN_ge.2 hle))) (forall_cons (e_rest (ds := digs (a * d)) (es := digs (c * b)) (pd rfl) (pd rfl) (dig_digs _) (dig_digs _) (by omega) (digs_mono hle) (by rw [nat_digs, nat_digs]; exact hle) (rd (by rw [nat_digs, nat_digs]; rfl))) (forall_cons (e_make (m := a * d - c * b) (k := b * d) (pv rfl) (pd rfl) (pd rfl) hbd hSl h6 rfl rfl rfl) forall_nil))
      exact (run_mk hC (app (hT0 false (by simp [hst])) hT) 26 Tryz.f26 [rp 0 1 2, rp 3 4 5] (.val (rp 10 11 12)) 90 Tryz.func26 rfl rfl rfl (by kernel_rfl) [x, y] hv).mono fin
    · rw [if_neg hle] at hS
      injection hS with g1 g2
      subst g1 g2
      have hT : ∀ t' ∈ t_add3, t'.Valid (C_add s t a b c d t (c * b - a * d) w) := forall_cons (e_geq (pv rfl) pvl (decide_eq_false (fun h => hle (cmpN_ge.1 h)))) (forall_cons (e_rest (ds := digs (c * b)) (es := digs (a * d)) (pd rfl) (pd rfl) (dig_digs _) (dig_digs _) (by omega) (digs_mono (by omega)) (by rw [nat_digs, nat_digs]; omega) (rd (by rw [nat_digs, nat_digs]; rfl))) (forall_cons (e_make (m := c * b - a * d) (k := b * d) (pv rfl) (pd rfl) (pd rfl) hbd hSl h6 rfl rfl rfl) forall_nil))
      exact (run_mk hC (app (hT0 false (by simp [hst])) hT) 26 Tryz.f26 [rp 0 1 2, rp 3 4 5] (.val (rp 10 11 12)) 90 Tryz.func26 rfl rfl rfl (by kernel_rfl) [x, y] hv).mono fin
end Sym
open Go Go.RowKit Go.Proofs Lim
namespace Sym
def t_div : List Ent := [⟨.bin .neq 4, [op 0, op 3], .val (op 6)⟩, ⟨.call 93, [op 1, op 5], .val (op 7)⟩, ⟨.call 93, [op 2, op 4], .val (op 8)⟩, ⟨.call 82, [op 6, op 7, op 8], .val (rp 9 10 11)⟩]
abbrev cl_div (s t : Bool) (a b c d : Nat) : List Cl := [clV (.bool s), clD (digs a), clD (digs b), clV (.bool t), clD (digs c), clD (digs d), clV (.bool (s != t)), clD (digs (a * d)), clD (digs (b * c)), clV (.bool ((s != t) && decide (a * d ≠ 0))), clD (digs (a * d / Nat.gcd (a * d) (b * c))), clD (digs (b * c / Nat.gcd (a * d) (b * c)))]
noncomputable abbrev C_div (s t : Bool) (a b c d : Nat) (w : World) : Ctx := mkC [1, 1, 1, 1, 1, 1, 1, 1, 1, 1, 1, 1] [true, false, false, true, false, false, true, false, false, true, false, false] [33] 21 (cl_div s t a b c d) w
theorem div_ok (s t : Bool) (x y : Value) (a b c d : Nat) (w : World) (hx : RatP w x s a b) (hy : RatP w y t c d) (hb : 0 < b) (hc : 0 < c) (h1 : (digs a).length < 1000000) (h2 : (digs b).length < 1000000) (h3 : (digs c).length < 1000000) (h4 : (digs d).length < 1000000) (h5 : (digs (a * d)).length < 10000000) (h6 : (digs (b * c)).length < 10000000) :
    Calls Tryz.prog 36 #[x, y] w (fun e w' => ∃ v, e = .returned v ∧ RatP w' v ((s != t) && decide (a * d ≠ 0)) (a * d / Nat.gcd (a * d) (b * c)) (b * c / Nat.gcd (a * d) (b * c)) ∧ Below w.heap.size w w') := by
  have hC : (C_div s t a b c d w).Ok := mkC_ok (oks_cons (clVb_ok _) (oks_cons (clD_ok ratT _) (oks_cons (clD_ok ratT _) (oks_cons (clVb_ok _) (oks_cons (clD_ok ratT _) (oks_cons (clD_ok ratT _) (oks_cons (clVb_ok _) (oks_cons (clD_ok ratT _) (oks_cons (clD_ok ratT _) (oks_cons (clVb_ok _) (oks_cons (clD_ok ratT _) (oks_cons (clD_ok ratT _) oks_nil)))))))))))) rfl rfl
  have hT : ∀ t' ∈ t_div, t'.Valid (C_div s t a b c d w) :=
    forall_cons (e_neqb (pv rfl) (pv rfl) (rv rfl)) (forall_cons (e_product (ds := digs a) (es := digs d) (pd rfl) (pd rfl) (dig_digs _) (dig_digs _) (by omega) (by omega) (rd (by rw [nat_digs, nat_digs]; rfl))) (forall_cons (e_product (ds := digs b) (es := digs c) (pd rfl) (pd rfl) (dig_digs _) (dig_digs _) (by omega) (by omega) (rd (by rw [nat_digs, nat_digs]; rfl)))
      (forall_cons (e_make (m := a * d) (k := b * c) (pv rfl) (pd rfl) (pd rfl) (Nat.mul_pos hb hc) h5 h6 rfl rfl rfl) forall_nil)))
  refine (run_mk hC hT 36 Tryz.f36 [rp 0 1 2, rp 3 4 5] (.val (rp 9 10 11)) 60 Tryz.func36 rfl rfl rfl (by kernel_rfl) [x, y] ⟨_, _, rfl, (rp_is rfl rfl rfl).2 hx, _, _, rfl, (rp_is rfl rfl rfl).2 hy, rfl⟩).mono ?_
  rintro e w' ⟨v, rfl, hv, hb'⟩
  exact ⟨v, rfl, (rp_is rfl rfl rfl).1 hv, hb'⟩
abbrev cl_neg (a b : Nat) : List Cl := [clD (digs a), clD (digs b), clV (ii ((digs a).length : Int))]
noncomputable abbrev C_neg (nt a b : Nat) (w : World) : Ctx := mkC [1, 1, 1] [false, false, true] [33] nt (cl_neg a b) w
theorem neg_C (nt a b : Nat) (w : World) : (C_neg nt a b w).Ok := mkC_ok (oks_cons (clD_ok ratT _) (oks_cons (clD_ok ratT _) (oks_cons (clVi_ok _) oks_nil))) rfl rfl
def t_neg (b : Bool) : List Ent := [⟨.blt .len [31] 3, [op 0], .val (op 2)⟩, ⟨.bin .gtr 3, [op 2, vp (ii 0)], .val (vp (.bool b))⟩]
theorem rl_is {nt a b : Nat} {w0 w : World} {v : Value} {s : Bool} : (Pat.agg [.lit (.bool s), .cls 0 1, .cls 1 1]).is (C_neg nt a b w0) w v ↔ RatP w v s a b := by
  constructor
  · rintro ⟨vs, ⟨xs, ys, rfl, rfl, xs2, ys2, rfl, ⟨f, hE, rfl⟩, xs3, ys3, rfl, ⟨g, hE', rfl⟩, h5⟩, rfl⟩
    rw [show ys3 = [] from h5]
    exact ⟨f 0, g 0, by simp [List.range_succ], hE, hE'⟩
  · rintro ⟨x, y, rfl, ha, hb⟩
    exact ⟨[.bool s, x, y], ⟨[.bool s], [x, y], rfl, rfl, [x], [y], rfl, ⟨fun _ => x, ha, rfl⟩, [y], [], rfl, ⟨fun _ => y, hb, rfl⟩, rfl⟩, rfl⟩
theorem neg_ok (s : Bool) (x : Value) (a b : Nat) (w : World) (hx : RatP w x s a b) : Calls Tryz.prog 38 #[x] w (fun e w' => ∃ v, e = .returned v ∧ RatP w' v (!s && decide (a ≠ 0)) a b ∧ Below w.heap.size w w') := by
  have hT : ∀ e, decide (a ≠ 0) = e → ∀ t ∈ t_neg e, t.Valid (C_neg 17 a b w) := fun e he => forall_cons (e_len und_nat (pd rfl) (rv rfl)) (forall_cons (e_gtr (pv rfl) pvl (by rw [← he]; congr 1; apply propext; rw [← digs_pos_len]; constructor <;> intro h <;> omega)) forall_nil)
  have hv : ∀ s, RatP w x s a b → PatsAre (C_neg 17 a b w) w [.agg [.lit (.bool s), .cls 0 1, .cls 1 1]] [x] := fun s h => ⟨_, _, rfl, rl_is.2 h, rfl⟩
  cases s with
  | true =>
    refine (run_mk (neg_C 17 a b w) (hT _ rfl) 38 Tryz.f38 [.agg [.lit (.bool true), .cls 0 1, .cls 1 1]] (.val (.agg [.lit (.bool false), .cls 0 1, .cls 1 1])) 60 Tryz.func38 rfl rfl rfl (by kernel_rfl) [x] (hv _ hx)).mono ?_
    rintro e w' ⟨v, rfl, hv, hb'⟩
    exact ⟨v, rfl, rl_is.1 hv, hb'⟩
  | false =>
    by_cases h0 : a = 0
    · refine (run_mk (neg_C 17 a b w) (hT false (by simp [h0])) 38 Tryz.f38 [.agg [.lit (.bool false), .cls 0 1, .cls 1 1]] (.val (.agg [.lit (.bool false), .cls 0 1, .cls 1 1])) 60 Tryz.func38 rfl rfl rfl (by kernel_rfl) [x] (hv _ hx)).mono ?_
      rintro e w' ⟨v, rfl, hv, hb'⟩
      refine ⟨v, rfl, ?_, hb'⟩
      rw [show (!false && decide (a ≠ 0)) = false by simp [h0]]
      exact rl_is.1 hv
    · refine (run_mk (neg_C 17 a b w) (hT true (by simp [h0])) 38 Tryz.f38 [.agg [.lit (.bool false), .cls 0 1, .cls 1 1]] (.val (.agg [.lit (.bool true), .cls 0 1, .cls 1 1])) 60 Tryz.func38 rfl rfl rfl (by kernel_rfl) [x] (hv _ hx)).mono ?_
      rintro e w' ⟨v, rfl, hv, hb'⟩
      refine ⟨v, rfl, ?_, hb'⟩
      rw [show (!false && decide (a ≠ 0)) = true by simp [h0]]
      exact rl_is.1 hv
end Sym
open Go Go.RowKit Go.Proofs Lim
namespace Sym
def RQ (w : World) (v : Value) (r : Rat) : Prop := RatP w v (decide (r.num < 0)) r.num.natAbs r.den
theorem RatP.below {w w' : World} {v : Value} {s : Bool} {m k B : Nat} (h : RatP w v s m k) (hb : Below B w w') (hB : w.heap.size ≤ B) : RatP w' v s m k := by
  obtain ⟨a, b, e, h1, h2⟩ := h
  exact ⟨a, b, e, h1.below hb hB, h2.below hb hB⟩
theorem RQ.below {w w' : World} {v : Value} {r : Rat} {B : Nat} (h : RQ w v r) (hb : Below B w w') (hB : w.heap.size ≤ B) : RQ w' v r := RatP.below h hb hB
theorem mk_parts (neg : Bool) {m k : Nat} (hk : 0 < k) : (mkRat (sgn neg m) k).num.natAbs = m / Nat.gcd m k ∧ (mkRat (sgn neg m) k).den = k / Nat.gcd m k ∧ decide ((mkRat (sgn neg m) k).num < 0) = (neg && decide (m ≠ 0)) := by
  have hk0 : k ≠ 0 := by omega
  rw [← Rat.normalize_eq_mkRat hk0, Rat.normalize_eq]
  have hg : (sgn neg m).natAbs.gcd k = Nat.gcd m k := by rw [sgn_abs]
  have hgp : 0 < Nat.gcd m k := Nat.gcd_pos_of_pos_right m hk
  obtain ⟨c, hc⟩ := Nat.gcd_dvd_left m k
  have hcd : m / Nat.gcd m k = c := by
    conv => lhs; lhs; rw [hc]
    exact Nat.mul_div_cancel_left c hgp
  have hz : sgn neg m / ((Nat.gcd m k : Nat) : Int) = sgn neg c := by
    have : sgn neg m = ((Nat.gcd m k : Nat) : Int) * sgn neg c := by
      unfold sgn
      split
      · rw [Int.mul_neg, ← Int.natCast_mul, ← hc]
      · rw [← Int.natCast_mul, ← hc]
    rw [this, Int.mul_ediv_cancel_left _ (by omega)]
  have hm0 : m = 0 ↔ c = 0 := by
    constructor
    · intro h
      have : Nat.gcd m k * c = 0 := by rw [← hc]; exact h
      rcases Nat.mul_eq_zero.1 this with h | h
      · omega
      · exact h
    · intro h
      rw [hc, h, Nat.mul_zero]
  simp only [hg, hz, sgn_abs, hcd, sgn_neg]
  refine ⟨trivial, trivial, ?_⟩
  have : decide (m ≠ 0) = !decide (c = 0) := by
    by_cases h : c = 0
    · simp [h, hm0.2 h]
    · have h' : m ≠ 0 := fun e => h (hm0.1 e)
      simp [h, h']
  rw [this]
theorem RatP.rq {w : World} {v : Value} {neg : Bool} {m k : Nat} {r : Rat} (hk : 0 < k) (h : RatP w v (neg && decide (m ≠ 0)) (m / Nat.gcd m k) (k / Nat.gcd m k)) (hr : r = mkRat (sgn neg m) k) : RQ w v r := by
  obtain ⟨h1, h2, h3⟩ := mk_parts neg (m := m) hk
  subst hr
  show RatP w v _ _ _
  rw [h1, h2, h3]
  exact h
def RNew (w : World) (r : Rat) (e : Ending) (w' : World) : Prop := ∃ v, e = .returned v ∧ RQ w' v r ∧ Below w.heap.size w w'
theorem B_le5 : B ≤ 10000 ^ 5 := by decide
theorem digs_siz {n k : Nat} (h : n < B ^ k) : (digs n).length ≤ 5 * k := by
  refine digs_len _ _ (Nat.lt_of_lt_of_le h ?_)
  rw [Nat.pow_mul]
  exact Nat.pow_le_pow_left B_le5 k
theorem pow_mul_lt {a b k j : Nat} (h1 : a < B ^ k) (h2 : b < B ^ j) : a * b < B ^ (k + j) := by
  rw [Nat.pow_add]
  exact Nat.mul_lt_mul_of_lt_of_lt h1 h2
theorem pow_add_lt {a b k : Nat} (h1 : a < B ^ k) (h2 : b < B ^ k) : a + b < B ^ (k + 1) := by
  rw [Nat.pow_succ]
  have : B ^ k * 2 ≤ B ^ k * B := Nat.mul_le_mul_left _ (by decide)
  omega
theorem sgn_mul (a b : Bool) (x y : Nat) : sgn (a != b) (x * y) = sgn a x * sgn b y := by
  unfold sgn
  cases a <;> cases b <;> simp [Int.natCast_mul, Int.neg_mul, Int.mul_neg]
theorem rmul_q (x y : Value) (r s : Rat) (k : Nat) (w : World) (hx : RQ w x r) (hy : RQ w y s) (z1 : Siz r k) (z2 : Siz s k) (hk : k ≤ 100000) : Calls Tryz.prog 30 #[x, y] w (RNew w (r * s)) := by
  have l1 := digs_siz z1.1
  have l2 := digs_siz z1.2
  have l3 := digs_siz z2.1
  have l4 := digs_siz z2.2
  have l5 := digs_siz (pow_mul_lt z1.1 z2.1)
  have l6 := digs_siz (pow_mul_lt z1.2 z2.2)
  have hd := Nat.mul_pos r.den_pos s.den_pos
  refine (mul_ok _ _ x y _ _ _ _ w hx hy r.den_pos s.den_pos (by omega) (by omega) (by omega) (by omega) (by omega) (by omega)).mono ?_
  rintro e w' ⟨v, rfl, hv, hb⟩
  refine ⟨v, rfl, RatP.rq hd hv ?_, hb⟩
  rw [sgn_mul, sgn_self, sgn_self, Rat.mul_def']
theorem div_field (rn rd sn sd N A : Rat) (hs : sn ≠ 0) (hd : sd ≠ 0) (hd' : rd ≠ 0) (hA : A = sn ∨ A = -sn) (h : N * A = rn * sd * sn) : rn / rd / (sn / sd) = N / (rd * A) := by
  have hq : sn / sd ≠ 0 := by grind
  have hn : rd * A ≠ 0 := by rcases hA with rfl | rfl <;> grind
  rcases hA with rfl | rfl
  · have : N = rn * sd := by grind
    grind
  · have : N = -(rn * sd) := by grind
    grind
theorem div_mk (r s : Rat) (h0 : s.num ≠ 0) : r / s = mkRat (sgn (decide (r.num < 0) != decide (s.num < 0)) (r.num.natAbs * s.den)) (r.den * s.num.natAbs) := by
  have h1 : sgn (decide (r.num < 0) != decide (s.num < 0)) (r.num.natAbs * s.den) * (s.num.natAbs : Int) = r.num * s.den * s.num := by
    have e1 : r.num * s.den * s.num = (r.num * s.num) * s.den := by rw [Int.mul_assoc, Int.mul_comm (s.den : Int), ← Int.mul_assoc]
    rw [e1]
    have h2 := sgn_mul (decide (r.num < 0)) (decide (s.num < 0)) (r.num.natAbs * s.den) s.num.natAbs
    rw [sgn_self] at h2
    have h3 : sgn (decide (r.num < 0) != decide (s.num < 0)) (r.num.natAbs * s.den * s.num.natAbs) = sgn (decide (r.num < 0) != decide (s.num < 0)) (r.num.natAbs * s.den) * (s.num.natAbs : Int) := by
      unfold sgn
      split <;> simp [Int.natCast_mul, Int.neg_mul]
    rw [← h3, h2]
    have h4 : sgn (decide (r.num < 0)) (r.num.natAbs * s.den) = r.num * s.den := by
      have : sgn (decide (r.num < 0)) (r.num.natAbs * s.den) = sgn (decide (r.num < 0)) r.num.natAbs * (s.den : Int) := by
        unfold sgn
        split <;> simp [Int.natCast_mul, Int.neg_mul]
      rw [this, sgn_self]
    rw [h4, Int.mul_assoc, Int.mul_comm (s.den : Int), ← Int.mul_assoc]
  have hs : (s.num : Rat) ≠ 0 := by
    intro h
    exact h0 (by exact_mod_cast h)
  have hd : ((s.den : Nat) : Rat) ≠ 0 := by
    intro h
    exact s.den_nz (by exact_mod_cast h)
  have hd' : ((r.den : Nat) : Rat) ≠ 0 := by
    intro h
    exact r.den_nz (by exact_mod_cast h)
  have hn : ((s.num.natAbs : Nat) : Rat) ≠ 0 := by
    intro h
    have : s.num.natAbs = 0 := by exact_mod_cast h
    omega
  have er : (r.num : Rat) / ((r.den : Nat) : Rat) = r := by rw [← Rat.mkRat_eq_div, Rat.mkRat_self]
  have es : (s.num : Rat) / ((s.den : Nat) : Rat) = s := by rw [← Rat.mkRat_eq_div, Rat.mkRat_self]
  rw [Rat.mkRat_eq_div]
  generalize sgn (decide (r.num < 0) != decide (s.num < 0)) (r.num.natAbs * s.den) = N at *
  have h1' : (N : Rat) * ((s.num.natAbs : Nat) : Rat) = (r.num : Rat) * ((s.den : Nat) : Rat) * (s.num : Rat) := by exact_mod_cast h1
  have e2 : (((r.den * s.num.natAbs : Nat)) : Rat) = ((r.den : Nat) : Rat) * ((s.num.natAbs : Nat) : Rat) := by simp
  rw [e2]
  have hA : ((s.num.natAbs : Nat) : Rat) = (s.num : Rat) ∨ ((s.num.natAbs : Nat) : Rat) = -(s.num : Rat) := by
    rcases Int.natAbs_eq s.num with h | h
    · left
      have h : ((s.num : Int) : Rat) = (((s.num.natAbs : Nat) : Int) : Rat) := by rw [← h]
      rw [h]; rfl
    · right
      have h : ((s.num : Int) : Rat) = ((-((s.num.natAbs : Nat) : Int) : Int) : Rat) := by rw [← h]
      rw [h]; simp; rfl
  have := div_field _ _ _ _ (N : Rat) _ hs hd hd' hA h1'
  rw [er, es] at this
  exact this
end Sym
open Go Go.RowKit Go.Proofs Lim
namespace Sym
theorem radd_q (x y : Value) (r s : Rat) (k : Nat) (w : World) (hx : RQ w x r) (hy : RQ w y s) (z1 : Siz r k) (z2 : Siz s k) (hk : k ≤ 100000) : Calls Tryz.prog 26 #[x, y] w (RNew w (r + s)) := by
  have l1 := digs_siz z1.1
  have l2 := digs_siz z1.2
  have l3 := digs_siz z2.1
  have l4 := digs_siz z2.2
  have l5 := digs_siz (pow_mul_lt z1.1 z2.2)
  have l6 := digs_siz (pow_mul_lt z1.2 z2.2)
  have l7 := digs_siz (pow_mul_lt z2.1 z1.2)
  have l8 := digs_siz (pow_add_lt (pow_mul_lt z1.1 z2.2) (pow_mul_lt z2.1 z1.2))
  have hd := Nat.mul_pos r.den_pos s.den_pos
  refine (add_ok _ _ x y _ _ _ _ w hx hy r.den_pos s.den_pos (by omega) (by omega) (by omega) (by omega) (by omega) (by omega) (by omega) (by omega) (S := (addS (decide (r.num < 0)) (decide (s.num < 0)) (r.num.natAbs * s.den) (s.num.natAbs * r.den)).2) (sg := (addS (decide (r.num < 0)) (decide (s.num < 0)) (r.num.natAbs * s.den) (s.num.natAbs * r.den)).1) rfl).mono ?_
  rintro e w' ⟨v, rfl, hv, hb⟩
  refine ⟨v, rfl, RatP.rq hd hv ?_, hb⟩
  have key : ∀ (a b : Bool) (x y : Nat), sgn (addS a b x y).1 (addS a b x y).2 = sgn a x + sgn b y := by
    intro a b x y
    unfold addS sgn
    cases a <;> cases b <;> simp <;> (try split) <;> (try simp) <;> omega
  have sm : ∀ (a : Bool) (x y : Nat), sgn a (x * y) = sgn a x * (y : Int) := by
    intro a x y
    unfold sgn
    split <;> simp [Int.natCast_mul, Int.neg_mul]
  rw [key, sm, sm, sgn_self, sgn_self, Rat.add_def']
theorem rdiv_q (x y : Value) (r s : Rat) (k : Nat) (w : World) (hx : RQ w x r) (hy : RQ w y s) (h0 : s.num ≠ 0) (z1 : Siz r k) (z2 : Siz s k) (hk : k ≤ 100000) : Calls Tryz.prog 36 #[x, y] w (RNew w (r / s)) := by
  have l1 := digs_siz z1.1
  have l2 := digs_siz z1.2
  have l3 := digs_siz z2.1
  have l4 := digs_siz z2.2
  have l5 := digs_siz (pow_mul_lt z1.1 z2.2)
  have l6 := digs_siz (pow_mul_lt z1.2 z2.1)
  have hc : 0 < s.num.natAbs := by omega
  refine (div_ok _ _ x y _ _ _ _ w hx hy r.den_pos hc (by omega) (by omega) (by omega) (by omega) (by omega) (by omega)).mono ?_
  rintro e w' ⟨v, rfl, hv, hb⟩
  exact ⟨v, rfl, RatP.rq (Nat.mul_pos r.den_pos hc) hv (div_mk r s h0), hb⟩
theorem rneg_q (x : Value) (r : Rat) (w : World) (hx : RQ w x r) : Calls Tryz.prog 38 #[x] w (RNew w (-r)) := by
  refine (neg_ok _ x _ _ w hx).mono ?_
  rintro e w' ⟨v, rfl, hv, hb⟩
  refine ⟨v, rfl, ?_, hb⟩
  show RatP w' v _ _ _
  rw [Rat.neg_num, Rat.neg_den, Int.natAbs_neg]
  have : decide (-r.num < 0) = (!decide (r.num < 0) && decide (r.num.natAbs ≠ 0)) := by
    by_cases h1 : r.num < 0
    · simp [h1]; omega
    · by_cases h2 : r.num = 0
      · simp [h2]
      · have : 0 < r.num := by omega
        simp [h1, h2, this]
  rw [this]
  exact hv
def clR (r : Rat) (k : Nat) : Cl := ⟨3, true, fun w f => RQ w (.agg #[f 0, f 1, f 2]) r ∧ Siz r k⟩
theorem RatP.cells {w : World} {f : Nat → Value} {s : Bool} {m k : Nat} (h : RatP w (.agg #[f 0, f 1, f 2]) s m k) : f 0 = .bool s ∧ Dg w (f 1) (digs m) ∧ Dg w (f 2) (digs k) := by
  obtain ⟨a, b, e, h1, h2⟩ := h
  injection e with e
  have e0 : f 0 = .bool s := by have := congrArg (fun x => x[0]?) e; simpa using this
  have e1 : f 1 = a := by have := congrArg (fun x => x[1]?) e; simpa using this
  have e2 : f 2 = b := by have := congrArg (fun x => x[2]?) e; simpa using this
  exact ⟨e0, e1 ▸ h1, e2 ▸ h2⟩
theorem clR_ok {okT : List Nat} {B : Nat} (ht : ∀ t ∈ okT, t ≠ 3) (r : Rat) (k : Nat) : (clR r k).Ok okT B := by
  refine ⟨fun w w' f hb h => ⟨h.1.below hb (Nat.le_refl _), h.2⟩, fun w w' R f cs t _ ho hm _ _ hb h => ⟨?_, h.2⟩, ?_, ?_⟩
  · obtain ⟨e0, e1, e2⟩ := RatP.cells h.1
    exact ⟨f 1, f 2, by rw [e0], Dg.only ho (ht t hm) e1 hb, Dg.only ho (ht t hm) e2 hb⟩
  · intro w f _ h
    obtain ⟨e0, _, _⟩ := RatP.cells h.1
    rw [e0]; rfl
  · intro w f j h hj
    obtain ⟨e0, e1, e2⟩ := RatP.cells h.1
    have hj : j < 3 := hj
    match j, hj with
    | 0, _ => rw [e0]; rfl
    | 1, _ => exact e1.one
    | 2, _ => exact e2.one
def rq (c : Nat) : Pat := .agg [.cls c 3]
def fitr (n k : Nat) : Bool := Nat.ble n k && Nat.ble k 100000
theorem fitr_le {n k : Nat} (h : fitr n k = true) : n ≤ k ∧ k ≤ 100000 := by
  simp only [fitr, Bool.and_eq_true] at h
  exact ⟨Nat.le_of_ble_eq_true h.1, Nat.le_of_ble_eq_true h.2⟩
section
variable {csz : List Nat} {numc : List Bool} {okT : List Nat} {nt : Nat} {cl : List Cl} {w0 : World} {w : World} {v : Value} {p1 p2 p3 p4 : Pat} {res : RPat} {c d c1 c2 c3 c4 c5 c6 : Nat} {r s t r1 r2 r3 r4 : Rat} {k k1 k2 k3 k4 k5 k6 : Nat}
theorem rq_is (h : cl[c]? = some (clR r k)) : (rq c).is (mkC csz numc okT nt cl w0) w v ↔ RQ w v r ∧ Siz r k := by
  constructor
  · rintro ⟨vs, ⟨xs, ys, rfl, ⟨f, hE, rfl⟩, hy⟩, rfl⟩
    rw [show ys = [] from hy]
    simp only [mkC, h] at hE
    exact hE
  · rintro ⟨h1, h2⟩
    obtain ⟨a, b, rfl, g1, g2⟩ := h1
    refine ⟨[.bool (decide (r.num < 0)), a, b], ⟨_, [], (List.append_nil _).symm, ⟨fun j => [Value.bool (decide (r.num < 0)), a, b].getD j undef, ?_, rfl⟩, rfl⟩, rfl⟩
    simp only [mkC, h]
    exact ⟨⟨a, b, rfl, g1, g2⟩, h2⟩
def PR (csz : List Nat) (numc : List Bool) (okT : List Nat) (nt : Nat) (cl : List Cl) (w0 : World) (p : Pat) (r : Rat) (k : Nat) : Prop := ∀ w v, p.is (mkC csz numc okT nt cl w0) w v → RQ w v r ∧ Siz r k
theorem pr (h : cl[c]? = some (clR r k)) : PR csz numc okT nt cl w0 (rq c) r k := fun _ _ h1 => (rq_is h).1 h1
theorem ent_rr {f : Nat} (hE : Enters Tryz.prog f) (h1 : PR csz numc okT nt cl w0 p1 r k1) (h2 : cl[c2]? = some (clR t k2)) (hz : Siz r k1 → Siz t k2)
    (hc : ∀ W v, RQ W v r → Siz r k1 → Calls Tryz.prog f #[v] W (RNew W t)) : V csz numc okT nt cl w0 (.call f) [p1] (.val (rq c2)) := by
  refine ⟨hE, fun w vs hb hvs => ?_⟩
  obtain ⟨v1, _, rfl, h4, rfl⟩ := hvs
  have h4 := h1 _ _ h4
  refine (hc w v1 h4.1 h4.2).mono ?_
  rintro e w' ⟨v, rfl, hv, hb'⟩
  exact ⟨v, rfl, (rq_is h2).2 ⟨hv, hz h4.2⟩, hb'⟩
theorem ent_rrr {f : Nat} (hE : Enters Tryz.prog f) (h1 : PR csz numc okT nt cl w0 p1 r k1) (h2 : PR csz numc okT nt cl w0 p2 s k2) (h3 : cl[c3]? = some (clR t k3)) (hz : Siz r k1 → Siz s k2 → Siz t k3)
    (hc : ∀ W v1 v2, RQ W v1 r → Siz r k1 → RQ W v2 s → Siz s k2 → Calls Tryz.prog f #[v1, v2] W (RNew W t)) : V csz numc okT nt cl w0 (.call f) [p1, p2] (.val (rq c3)) := by
  refine ⟨hE, fun w vs hb hvs => ?_⟩
  obtain ⟨v1, _, rfl, h4, v2, _, rfl, h5, rfl⟩ := hvs
  have h4 := h1 _ _ h4
  have h5 := h2 _ _ h5
  refine (hc w v1 v2 h4.1 h4.2 h5.1 h5.2).mono ?_
  rintro e w' ⟨v, rfl, hv, hb'⟩
  exact ⟨v, rfl, (rq_is h3).2 ⟨hv, hz h4.2 h5.2⟩, hb'⟩
theorem ent_rv {f : Nat} {x : Value} (hE : Enters Tryz.prog f) (h1 : PR csz numc okT nt cl w0 p1 r k1)
    (hc : ∀ W v, RQ W v r → Siz r k1 → Calls Tryz.prog f #[v] W (Val W x)) : V csz numc okT nt cl w0 (.call f) [p1] (.val (vp x)) := by
  refine ⟨hE, fun w vs hb hvs => ?_⟩
  obtain ⟨v1, _, rfl, h4, rfl⟩ := hvs
  have h4 := h1 _ _ h4
  refine (hc w v1 h4.1 h4.2).mono ?_
  rintro e w' ⟨rfl, hb'⟩
  exact ⟨_, rfl, vp_r _ _ _, hb'⟩
theorem ent_rrv {f : Nat} {x : Value} (hE : Enters Tryz.prog f) (h1 : PR csz numc okT nt cl w0 p1 r k1) (h2 : PR csz numc okT nt cl w0 p2 s k2)
    (hc : ∀ W v1 v2, RQ W v1 r → Siz r k1 → RQ W v2 s → Siz s k2 → Calls Tryz.prog f #[v1, v2] W (Val W x)) : V csz numc okT nt cl w0 (.call f) [p1, p2] (.val (vp x)) := by
  refine ⟨hE, fun w vs hb hvs => ?_⟩
  obtain ⟨v1, _, rfl, h4, v2, _, rfl, h5, rfl⟩ := hvs
  have h4 := h1 _ _ h4
  have h5 := h2 _ _ h5
  refine (hc w v1 v2 h4.1 h4.2 h5.1 h5.2).mono ?_
  rintro e w' ⟨rfl, hb'⟩
  exact ⟨_, rfl, vp_r _ _ _, hb'⟩
theorem e_radd (h1 : PR csz numc okT nt cl w0 p1 r k1) (h2 : PR csz numc okT nt cl w0 p2 s k2) (h3 : cl[c3]? = some (clR (r + s) k3)) (hk : fitr (k1 + k2 + 1) k3 = true) : V csz numc okT nt cl w0 (.call 26) [p1, p2] (.val (rq c3)) := by
  have hk := fitr_le hk
  exact ent_rrr (enters_of Tryz.func26 (by kernel_rfl) rfl) h1 h2 h3 (fun z1 z2 => (z1.add z2).le (by omega)) (fun W v1 v2 q1 z1 q2 z2 => radd_q v1 v2 r s k3 W q1 q2 (z1.le (by omega)) (z2.le (by omega)) (by omega))
theorem e_rmul (h1 : PR csz numc okT nt cl w0 p1 r k1) (h2 : PR csz numc okT nt cl w0 p2 s k2) (h3 : cl[c3]? = some (clR (r * s) k3)) (hk : fitr (k1 + k2) k3 = true) : V csz numc okT nt cl w0 (.call 30) [p1, p2] (.val (rq c3)) := by
  have hk := fitr_le hk
  exact ent_rrr (enters_of Tryz.func30 (by kernel_rfl) rfl) h1 h2 h3 (fun z1 z2 => (z1.mul z2).le (by omega)) (fun W v1 v2 q1 z1 q2 z2 => rmul_q v1 v2 r s k3 W q1 q2 (z1.le (by omega)) (z2.le (by omega)) (by omega))
theorem e_rdiv (h0 : s.num ≠ 0) (h1 : PR csz numc okT nt cl w0 p1 r k1) (h2 : PR csz numc okT nt cl w0 p2 s k2) (h3 : cl[c3]? = some (clR (r / s) k3)) (hk : fitr (k1 + k2) k3 = true) : V csz numc okT nt cl w0 (.call 36) [p1, p2] (.val (rq c3)) := by
  have hk := fitr_le hk
  exact ent_rrr (enters_of Tryz.func36 (by kernel_rfl) rfl) h1 h2 h3 (fun z1 z2 => (z1.div z2 h0).le (by omega)) (fun W v1 v2 q1 z1 q2 z2 => rdiv_q v1 v2 r s k3 W q1 q2 h0 (z1.le (by omega)) (z2.le (by omega)) (by omega))
theorem e_rneg (h1 : PR csz numc okT nt cl w0 p1 r k1) (h2 : cl[c2]? = some (clR (-r) k2)) (hk : fitr k1 k2 = true) : V csz numc okT nt cl w0 (.call 38) [p1] (.val (rq c2)) :=
  ent_rr (enters_of Tryz.func38 (by kernel_rfl) rfl) h1 h2 (fun z => z.neg.le (fitr_le hk).1) (fun W v q _ => rneg_q v r W q)
theorem hd_bs {o : Oper} {t n : Nat} {xs : List Operand} (h : opHd o = some (.bs t n, xs)) : ∃ parts, o.op = .buildSlice t n parts ∧ parts.toList.map (·.1) = List.range parts.toList.length ∧ xs = parts.toList.map (·.2) := by
  unfold opHd at h
  split at h <;> first
    | (rename_i h0
       split at h
       · rename_i hd
         simp only [Option.some.injEq, Prod.mk.injEq, Hd.bs.injEq] at h
         obtain ⟨⟨rfl, rfl⟩, rfl⟩ := h
         exact ⟨_, h0, of_decide_eq_true hd, rfl⟩
       · simp at h)
    | (split at h <;> simp at h)
    | simp at h
theorem e_bs1 {x : Nat} (h1 : PV csz numc okT nt cl w0 p1 (ii (x : Int))) (h3 : RD csz numc okT nt cl w0 res [x]) : V csz numc okT nt cl w0 (.bs 31 1) [p1] res := by
  intro w ρ oo xs ho hb hvs
  obtain ⟨parts, hop, hidx, rfl⟩ := hd_bs ho
  obtain ⟨v1, _, e1, h4, e2⟩ := hvs
  obtain rfl := h1 _ _ h4
  subst e2
  obtain ⟨y, hp, hy⟩ : ∃ y, parts.toList = [(0, y)] ∧ ρ y = ii (x : Int) := by
    cases hl : parts.toList with
    | nil => rw [hl] at e1; simp at e1
    | cons a l =>
      cases l with
      | nil =>
        rw [hl] at e1 hidx
        obtain ⟨i, y⟩ := a
        simp [List.range_succ] at e1 hidx
        exact ⟨y, by rw [hidx], e1⟩
      | cons b l => rw [hl] at e1; simp at e1
  have hu : Tryz.prog.underlying 31 = some (.slice 3) := by kernel_rfl
  obtain ⟨inf, hinf, hz, hs, _⟩ := info_int
  have hf : Instr.fill (fun j => some (j * inf.size, inf.size)) ((Array.range (1 * inf.size)).map ((ii 0).cells[· % (ii 0).cells.size]!)) (parts.map fun (j, x) => (j, ρ x)).toList = some #[ii (x : Int)] := by
    have := Great.fill_whole (s := 1) (by decide) [ii (x : Int)] ((Array.range (1 * 1)).map ((ii 0).cells[· % (ii 0).cells.size]!)) (fun v hv => by
      have : v = ii (x : Int) := by simpa using hv
      subst this
      rfl) (by simp)
    rw [Array.toList_map, hp, hs]
    simp only [List.map_cons, List.map_nil, hy]
    exact this
  have hr := run_buildSlice (P := Tryz.prog) w 31 3 1 (parts.map fun (j, x) => (j, ρ x)) _ inf (ii 0) hu hinf hz (by rw [hs]; omega) (by rw [hs]; omega) hf
  refine ⟨.slice (some ⟨w.heap.size, 0, none⟩) 1 1, w.alloc (.cells #[ii (x : Int)] 3), ?_, h3 _ _ ⟨some ⟨w.heap.size, 0, none⟩, 1, rfl, Nat.le_refl _, by decide, fun _ => ⟨_, 0, rfl, ⟨_, _, heap_alloc_new w _⟩, fun i hi => ?_⟩⟩, (Below.refl _ _).alloc (Nat.le_refl _) _⟩
  · show (execOp ρ oo).run Tryz.prog w = _
    simp only [execOp, hop, Sem.run_bind, hr, Result.andThen_ok]
    rfl
  · have hi : i < 1 := hi
    obtain rfl : i = 0 := by omega
    simp only [World.cell?, heap_alloc_new]
    rfl
theorem e_min {ats : List Nat} {t : Nat} {x y : Int} (h1 : PV csz numc okT nt cl w0 p1 (ii x)) (h2 : PV csz numc okT nt cl w0 p2 (ii y)) (h3 : RV csz numc okT nt cl w0 res (ii (if y < x then y else x))) : V csz numc okT nt cl w0 (.blt .min ats t) [p1, p2] res := by
  intro w ρ oo xs ho hb hvs
  obtain ⟨c, hop, hc, hat, hty, rfl⟩ := hd_blt ho
  obtain ⟨v1, _, e1, h4, v2, _, e2, h5, e3⟩ := hvs
  obtain rfl := h1 _ _ h4
  obtain rfl := h2 _ _ h5
  subst e2
  subst e3
  refine ⟨_, w, ?_, h3 w, Below.refl _ _⟩
  have he : c.args.map ρ = #[ii x, ii y] := by
    apply Array.ext'
    simpa using e1
  show (execOp ρ oo).run Tryz.prog w = _
  simp only [execOp, hop, resolve, hc, he, Sem.run_bind, Sem.run_pure, Result.andThen_ok, invoke, builtin, run_min_int2]
end
end Sym
end Go.Proofs.YtccabfblgjcboaaGreatDoor
