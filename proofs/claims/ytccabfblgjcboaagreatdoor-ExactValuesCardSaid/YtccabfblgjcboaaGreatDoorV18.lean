/- Package exact: QRecip QOver QInt QOf QInt64. -/
import Derived.Test.YtccabfblgjcboaaGreatDoorV17
set_option linter.all false

namespace Go.Proofs.YtccabfblgjcboaaGreatDoor
open Go Go.RowKit Go.Proofs Lim
theorem inv_parts {r : Rat} (h : r.num ≠ 0) : (r⁻¹).num = sgn (neg? r) r.den ∧ (r⁻¹).den = r.num.natAbs := by
 show (Rat.inv r).num = _ ∧ (Rat.inv r).den = _
 unfold Rat.inv sgn
 by_cases h1 : r.num < 0
 · simp [h1]
 · have h2 : 0 < r.num := by omega
   simp [h1, h2]
theorem recip_q (v : Value) (r : Rat) (w : World) (h : cR w v r) (h0 : r.num ≠ 0) :
 Calls Tryz.prog 80 #[v] w (cX w r⁻¹) := by
 obtain ⟨in1, in2⟩ := inv_parts h0
 cases h with
 | low l hv hd hn hdB =>
  subst hv
  have hq : ∀ W, cR W (lo (neg? r && !decide (r.den = 0)) r.den (difLo r.num.natAbs 1)) r⁻¹ := by
   intro W
   unfold cR
   rw [in1, in2, sgn_abs, sgn_neg]
   exact Num.low _ rfl (difLo_one hn (by omega)).symm hdB hn
  have HQ := Lib.hid hq
  have HS := Lib.hid (fun W => small_any (neg? r) r.den r.num.natAbs hn W)
  have HBo := Lib.hid (fun W => bottom_any (neg? r) r.num.natAbs l none (hd ▸ hdB) W)
  rw [← hd] at HBo
  clear hq in1 in2 hn hdB hd h0
  show Calls Tryz.prog 80 #[lo (neg? r) r.num.natAbs l] w (cX w r⁻¹)
  generalize r⁻¹ = t at *
  generalize neg? r = sg at *
  generalize r.num.natAbs = n at *
  generalize r.den = d at *
  generalize (sg && !decide (d = 0)) = sg2 at *
  generalize difLo n 1 = l2 at *
  go_enter Tryz.func80, Tryz.ntmps80
  go_wp2_with fail
  obtain ⟨W0, hW0, hb0, hx0, hz⟩ := box2w w (.bool sg) (u n) (u l) (.pointer none); rw [← hW0]; clear hW0; obtain ⟨f0, f1, f2, f3⟩ := hx0.cells; have HZ := Lib.hid hz; have HW0 := Lib.hid hb0; have hb0 := Below.refl W0.heap.size W0; clear hz hx0; have n1 : ¬ w.heap.size = w.heap.size + 1 := (by omega); have n2 : ¬ w.heap.size + 1 = w.heap.size := (by omega)
  go_region_held3 (fun w' => (w'.cell? ⟨w.heap.size, 0, none⟩ = some (.bool sg) ∧ w'.cell? ⟨w.heap.size, 1, none⟩ = some (u n) ∧ w'.cell? ⟨w.heap.size, 2, none⟩ = some (u l) ∧ w'.cell? ⟨w.heap.size, 3, none⟩ = some (.pointer none))) (go_keep) (first | ((with_reducible refine (HBo.out _).mono ?_); rintro e W1 ⟨rfl, hb⟩; (obtain ⟨_, _, _, _⟩ := cq (b := w.heap.size) hb (by assumption) (by assumption) (by assumption) (by assumption))) | ((with_reducible refine (HS.out _).mono ?_); rintro e W2 ⟨rfl, hb'⟩; (obtain ⟨_, _, _, _⟩ := cq (b := w.heap.size) hb' (by assumption) (by assumption) (by assumption) (by assumption)); have hb3 := cf (cI hb0 hb) hb'; (have hz := HZ.out.below hb3 (Nat.le_refl _); have zf := hz.frozen; obtain ⟨z0, z1, z2, z3⟩ := hz.cells; have zf0 := zf 0; have zf1 := zf 1; have zf2 := zf 2; have zf3 := zf 3; clear zf hz)))
  have hz := HZ.out.below hb3 (Nat.le_refl _)
  have hfin := cX.stored (a0 := .bool sg2) (a1 := u d) (a2 := u l2) (a3 := .pointer none) hz (HQ.out _) (cf HW0.out hb3) (by omega)
  have HFin := Lib.hid hfin
  clear hfin hb hb' hb0 hb3 hz f0 f1 f2 f3
  go_wp2_with fail
  refine bodyPost_ret (v := lo sg2 d l2) (by simp [results, Tryz.results80, go_sem, z0, z1, z2, z3]) rfl ?_
  exact HFin.out
 | wide b x y hv hx hy h1 h2 hB h0' hd =>
  subst hv
  have HF := Lib.hid (fun W (hW : Below w.heap.size w W) => fraction_any (neg? r) y x r.den r.num.natAbs W (h2.below hW (Nat.le_refl _)) (h1.below hW (Nat.le_refl _)) h0')
  have HR := Lib.hid (fun W W' e (h : FracPost W (neg? r) r.den r.num.natAbs e W') => h.q in1 in2)
  obtain ⟨xa, xl, xc, rfl, _⟩ := h1.form
  obtain ⟨ya, yl, yc, rfl, _⟩ := h2.form
  clear h1 h2 in1 in2 hB h0' hd h0
  show Calls Tryz.prog 80 #[wi (neg? r) ⟨b, 0, none⟩] w (cX w r⁻¹)
  generalize r⁻¹ = t at *
  generalize neg? r = sg at *
  generalize r.num.natAbs = n at *
  generalize r.den = d at *
  go_enter Tryz.func80, Tryz.ntmps80
  go_wp2_with fail
  have p1 : ¬ b = w.heap.size + 1 := by have := World.block_lt_of_cell? w _ hx; simp at this; omega
  have p2 : ¬ w.heap.size + 1 = b := fun h => p1 h.symm
  obtain ⟨W0, hW0, hb0, hx0, hz⟩ := box2w w (.bool sg) (u 0) (u 0) (.pointer (some ⟨b, 0, none⟩)); rw [← hW0]; clear hW0; obtain ⟨f0, f1, f2, f3⟩ := hx0.cells; have HZ := Lib.hid hz; have HW0 := Lib.hid hb0; have hb0 := Below.refl W0.heap.size W0; clear hz hx0; have n1 : ¬ w.heap.size = w.heap.size + 1 := (by omega); have n2 : ¬ w.heap.size + 1 = w.heap.size := (by omega)
  have hx : W0.cell? ⟨b, 0, none⟩ = some (.slice xa xl xc) := (HW0.out.cell (p := ⟨b, 0, none⟩) (World.block_lt_of_cell? w _ hx)).trans hx
  have hy : W0.cell? ⟨b, 1, none⟩ = some (.slice ya yl yc) := (HW0.out.cell (p := ⟨b, 1, none⟩) (World.block_lt_of_cell? w _ hy)).trans hy
  go_region_held3 (fun w' => (w'.cell? ⟨w.heap.size, 0, none⟩ = some (.bool sg) ∧ w'.cell? ⟨w.heap.size, 3, none⟩ = some (.pointer (some ⟨b, 0, none⟩))) ∧ w'.cell? ⟨b, 0, none⟩ = some (.slice xa xl xc) ∧ w'.cell? ⟨b, 1, none⟩ = some (.slice ya yl yc)) (go_keep) (((with_reducible refine (HF.out _ (HW0.out.drew)).mono ?_); rintro e W1 hF; have hQ := HR.out _ _ _ hF; obtain ⟨v, rfl, hv, hb⟩ := hQ; (obtain ⟨_, _, _, _⟩ := cq (b := w.heap.size) hb (by assumption) (by assumption) (by assumption) (by assumption)); have hb3 := cI hb0 hb; have k1 := (hb3.cell (p := ⟨b, 0, none⟩) (World.block_lt_of_cell? W0 _ hx)).trans hx; have k2 := (hb3.cell (p := ⟨b, 1, none⟩) (World.block_lt_of_cell? W0 _ hy)).trans hy; have hv' := hv; obtain ⟨sg9, a9, b9, p9, rfl⟩ := hv'.form; (have hz := HZ.out.below hb3 (Nat.le_refl _); have zf := hz.frozen; obtain ⟨z0, z1, z2, z3⟩ := hz.cells; have zf0 := zf 0; have zf1 := zf 1; have zf2 := zf 2; have zf3 := zf 3; clear zf hz)))
  have hz := HZ.out.below hb3 (Nat.le_refl _)
  have hfin := cX.stored (a0 := .bool sg9) (a1 := u a9) (a2 := u b9) (a3 := .pointer p9) hz hv (cf HW0.out hb3) (by omega)
  have HFin := Lib.hid hfin
  clear hfin hb hb0 hb3 hz f0 f1 f2 f3 hv hv' hF
  go_wp2_with fail
  refine bodyPost_ret (v := .agg #[.bool sg9, u a9, u b9, .pointer p9]) (by simp [results, Tryz.results80, go_sem, z0, z1, z2, z3]) rfl ?_
  exact HFin.out
open Go Go.RowKit Go.Proofs Lim
theorem cF.inv {r : Rat} {k : Nat} (h : cF r k) (h0 : r.num ≠ 0) : cF r⁻¹ k := by
 obtain ⟨e1, e2⟩ := inv_parts h0
 unfold cF at *
 rw [e1, e2, sgn_abs]
 exact ⟨h.2, h.1⟩
theorem over_zero (v1 v2 : Value) (r s : Rat) (w : World) (h1 : cR w v1 r) (h2 : cR w v2 s) (h0 : s.num = 0) :
 Calls Tryz.prog 34 #[v1, v2] w (fun e w' => e = .returned (.tuple #[lo false 0 0, .int .i64 10]) ∧ Below w.heap.size w w') := by
 have HS := Lib.hid (fun W (hW : Below w.heap.size w W) => sign_q v2 s W (h2.below hW (Nat.le_refl _)))
 have hs : sign s = 0 := by unfold sign; rw [if_pos h0]
 rw [hs] at HS
 obtain ⟨neg1, a1, b1, p1, rfl⟩ := h1.form
 obtain ⟨neg2, a2, b2, p2, rfl⟩ := h2.form
 clear h1 h2 hs h0
 go_enter Tryz.func34, Tryz.ntmps34
 go_wp2_with fail
 obtain ⟨W0, hW0, hb0, ⟨f0, f1, f2, f3⟩, ⟨g0, g1, g2, g3⟩, hz⟩ := box3 w (.bool neg1) (u a1) (u b1) (.pointer p1) (.bool neg2) (u a2) (u b2) (.pointer p2); rw [← hW0]; clear hW0; have HZ := Lib.hid hz; have HW0 := Lib.hid hb0; have hb0 := Below.refl W0.heap.size W0; clear hz
 refine (HS.out _ (cf HW0.out hb0)).mono ?_
 rintro e W1 ⟨rfl, hb⟩
 (obtain ⟨_, _, _, _⟩ := cq (b := w.heap.size) hb (by assumption) (by assumption) (by assumption) (by assumption); obtain ⟨_, _, _, _⟩ := cq (b := w.heap.size + 1) hb (by assumption) (by assumption) (by assumption) (by assumption))
 have HA := Lib.hid (cf hb0 hb)
 clear hb0 hb f0 f1 f2 f3 g0 g1 g2 g3
 (have hz := HZ.out.below HA.out (Nat.le_refl _); have zf := hz.frozen; obtain ⟨z0, z1, z2, z3⟩ := hz.cells; have zf0 := zf 0; have zf1 := zf 1; have zf2 := zf 2; have zf3 := zf 3; clear zf hz)
 go_wp2_with fail
 refine bodyPost_ret (v := .tuple #[lo false 0 0, .int .i64 10]) (by simp [results, Tryz.results34, go_sem, z0, z1, z2, z3]) rfl ?_
 exact ⟨rfl, js HW0.out HA.out (by omega) _ _ _ _⟩
def OverQ (w : World) (r : Rat) (e : Ending) (w' : World) : Prop := ∃ v, e = .returned (.tuple #[v, .int .i64 0]) ∧ cR w' v r ∧ Below w.heap.size w w'
theorem over_q (v1 v2 : Value) (r s : Rat) (k : Nat) (w : World) (h1 : cR w v1 r) (h2 : cR w v2 s) (h0 : s.num ≠ 0) (z1 : cF r k) (z2 : cF s k) (hk : (k : Int) ≤ 1073741824) (hG : Gr w) :
 Calls Tryz.prog 34 #[v1, v2] w (OverQ w (r / s)) := by
 have HS := Lib.hid (fun W (hW : Below w.heap.size w W) => sign_q v2 s W (h2.below hW (Nat.le_refl _)))
 have hs : ((sign s : Int) == 0) = false := by unfold sign; rw [if_neg h0]; split <;> rfl
 have HR := Lib.hid (fun W (hW : Below w.heap.size w W) => recip_q v2 s W (h2.below hW (Nat.le_refl _)) h0)
 have HT := Lib.hid (fun v W (hv : cR W v s⁻¹) (hW : Below w.heap.size w W) => times_q v1 v r s⁻¹ k W (h1.below hW (Nat.le_refl _)) hv z1 (z2.inv h0) hk (hG.below hW hG.size))
 rw [← Rat.div_def] at HT
 obtain ⟨neg1, a1, b1, p1, rfl⟩ := h1.form
 obtain ⟨neg2, a2, b2, p2, rfl⟩ := h2.form
 clear h1 h2 h0 z1 z2 hk hG
 generalize r / s = t at *
 generalize s⁻¹ = s' at *
 generalize sign s = sv at *
 go_enter Tryz.func34, Tryz.ntmps34
 go_wp2_with fail
 obtain ⟨W0, hW0, hb0, ⟨f0, f1, f2, f3⟩, ⟨g0, g1, g2, g3⟩, hz⟩ := box3 w (.bool neg1) (u a1) (u b1) (.pointer p1) (.bool neg2) (u a2) (u b2) (.pointer p2); rw [← hW0]; clear hW0; have HZ := Lib.hid hz; have HW0 := Lib.hid hb0; have hb0 := Below.refl W0.heap.size W0; clear hz
 refine (HS.out _ (cf HW0.out hb0)).mono ?_
 rintro e W1 ⟨rfl, hb⟩
 (obtain ⟨_, _, _, _⟩ := cq (b := w.heap.size) hb (by assumption) (by assumption) (by assumption) (by assumption); obtain ⟨_, _, _, _⟩ := cq (b := w.heap.size + 1) hb (by assumption) (by assumption) (by assumption) (by assumption))
 have HA := Lib.hid (cf hb0 hb)
 clear hb0 hb f0 f1 f2 f3 g0 g1 g2 g3
 have n1 : ¬ w.heap.size = w.heap.size + 1 + 1 := by omega
 have n2 : ¬ w.heap.size + 1 + 1 = w.heap.size := by omega
 go_wp2_with fail
 go_region_held3 (fun w' => (w'.cell? ⟨w.heap.size, 0, none⟩ = some (.bool neg1) ∧ w'.cell? ⟨w.heap.size, 1, none⟩ = some (u a1) ∧ w'.cell? ⟨w.heap.size, 2, none⟩ = some (u b1) ∧ w'.cell? ⟨w.heap.size, 3, none⟩ = some (.pointer p1)) ∧ (w'.cell? ⟨w.heap.size + 1, 0, none⟩ = some (.bool neg2) ∧ w'.cell? ⟨w.heap.size + 1, 1, none⟩ = some (u a2) ∧ w'.cell? ⟨w.heap.size + 1, 2, none⟩ = some (u b2) ∧ w'.cell? ⟨w.heap.size + 1, 3, none⟩ = some (.pointer p2))) (go_keep) (first | ((with_reducible refine (HR.out _ ((cf HW0.out HA.out).drew)).mono ?_); rintro e W2 ⟨vn, rfl, hvn, hb⟩; (obtain ⟨_, _, _, _⟩ := cq (b := w.heap.size) hb (by assumption) (by assumption) (by assumption) (by assumption); obtain ⟨_, _, _, _⟩ := cq (b := w.heap.size + 1) hb (by assumption) (by assumption) (by assumption) (by assumption)); obtain ⟨_, _, _, _, rfl⟩ := hvn.form) | ((with_reducible refine (HT.out _ _ hvn (cf HW0.out (cI HA.out hb))).mono ?_); rintro e W9 ⟨v, rfl, hv, hb'⟩; (obtain ⟨_, _, _, _⟩ := cq (b := w.heap.size) hb' (by assumption) (by assumption) (by assumption) (by assumption); obtain ⟨_, _, _, _⟩ := cq (b := w.heap.size + 1) hb' (by assumption) (by assumption) (by assumption) (by assumption)); have hv' := hv; obtain ⟨sg9, a9, b9, p9, rfl⟩ := hv'.form; have hb3 := cf (cI HA.out hb) hb'; (have hz := HZ.out.below hb3 (Nat.le_refl _); have zf := hz.frozen; obtain ⟨z0, z1, z2, z3⟩ := hz.cells; have zf0 := zf 0; have zf1 := zf 1; have zf2 := zf 2; have zf3 := zf 3; clear zf hz)))
 have hz := HZ.out.below hb3 (Nat.le_refl _)
 have hfin := cX.stored (a0 := .bool sg9) (a1 := u a9) (a2 := u b9) (a3 := .pointer p9) hz hv (cf HW0.out hb3) (by omega)
 have HFin := Lib.hid hfin
 clear hfin hv hv' hvn hb hb' hb3 hz
 go_wp2_with fail
 refine bodyPost_ret (v := .tuple #[.agg #[.bool sg9, u a9, u b9, .pointer p9], .int .i64 0]) (by simp [results, Tryz.results34, go_sem, z0, z1, z2, z3]) rfl ?_
 obtain ⟨v, hv, hq, hbb⟩ := HFin.out
 injection hv with hv
 subst hv
 exact ⟨_, rfl, hq, hbb⟩
open Go Go.RowKit Go.Proofs Lim
theorem int_q (i : Int) (h1 : -9223372036854775808 ≤ i) (h2 : i ≤ 9223372036854775807) (w : World) :
 Calls Tryz.prog 15 #[.int .i64 i] w (cX w (i : Rat)) := by
 have hB : i.natAbs < B := by unfold B; omega
 have hl : difLo 1 1 = 0 := by rfl
 have hq : ∀ W, cR W (lo (decide (i < 0) && !decide (i.natAbs = 0)) i.natAbs (difLo 1 1)) (i : Rat) := by
  intro W
  rw [hl]
  unfold cR
  rw [Rat.num_intCast, Rat.den_intCast]
  have : (decide (i < 0) && !decide (i.natAbs = 0)) = decide (i < 0) := by
   rw [Bool.eq_iff_iff]; simp; omega
  rw [this]
  exact Num.low 0 rfl rfl hB (by decide)
 have HQ := Lib.hid hq
 have HS := Lib.hid (fun W => small_any (decide (i < 0)) i.natAbs 1 (by decide) W)
 by_cases hi : i < 0
 · have hw : IntKind.u64.wrap (-(IntKind.u64.wrap i)) = (i.natAbs : Int) := by
    rw [IntKind.wrap_u64, IntKind.wrap_u64]
    unfold B at hB
    omega
   have hw2 : IntKind.u64.wrap (-i) = (i.natAbs : Int) := by
    rw [IntKind.wrap_u64]
    unfold B at hB
    omega
   simp only [hi, decide_true] at HS HQ
   clear hq hl hB
   have HHB := Lib.hid h1
   generalize (i : Rat) = t at *
   generalize (true && !decide (i.natAbs = 0)) = sg at *
   go_enter Tryz.func15, Tryz.ntmps15
   go_wp2_with fail
   obtain ⟨W0, hW0, hb0, hz, hs⟩ := boxz w; rw [← hW0]; clear hW0; have HZ := Lib.hid hz; have HW0 := Lib.hid hb0; have hb0 := Below.refl W0.heap.size W0; clear hz
   clear hs
   generalize difLo 1 1 = l2 at *
   generalize hn : i.natAbs = n at *
   refine (HS.out _).mono ?_
   rintro e W1 ⟨rfl, hb⟩
   have hb3 := cf hb0 hb
   have hz := HZ.out.below hb3 (Nat.le_refl _)
   have hfin := cX.stored (a0 := .bool sg) (a1 := u n) (a2 := u l2) (a3 := .pointer none) hz (HQ.out _) (cf HW0.out hb3) (Nat.le_refl _)
   have HFin := Lib.hid hfin
   (have hz := HZ.out.below hb3 (Nat.le_refl _); have zf := hz.frozen; obtain ⟨z0, z1, z2, z3⟩ := hz.cells; have zf0 := zf 0; have zf1 := zf 1; have zf2 := zf 2; have zf3 := zf 3; clear zf hz)
   clear hfin hb hb0 hb3 hz hn
   go_wp2_with fail
   refine bodyPost_ret (v := lo sg n l2) (by simp [results, Tryz.results15, go_sem, z0, z1, z2, z3]) rfl ?_
   exact HFin.out
 · have hw : IntKind.u64.wrap i = (i.natAbs : Int) := by
    rw [IntKind.wrap_u64]
    unfold B at hB
    omega
   simp only [hi, decide_false] at HS HQ
   clear hq hl hB
   have HHB := Lib.hid h1
   generalize (i : Rat) = t at *
   generalize (false && !decide (i.natAbs = 0)) = sg at *
   go_enter Tryz.func15, Tryz.ntmps15
   go_wp2_with fail
   obtain ⟨W0, hW0, hb0, hz, hs⟩ := boxz w; rw [← hW0]; clear hW0; have HZ := Lib.hid hz; have HW0 := Lib.hid hb0; have hb0 := Below.refl W0.heap.size W0; clear hz
   clear hs
   generalize difLo 1 1 = l2 at *
   generalize hn : i.natAbs = n at *
   refine (HS.out _).mono ?_
   rintro e W1 ⟨rfl, hb⟩
   have hb3 := cf hb0 hb
   have hz := HZ.out.below hb3 (Nat.le_refl _)
   have hfin := cX.stored (a0 := .bool sg) (a1 := u n) (a2 := u l2) (a3 := .pointer none) hz (HQ.out _) (cf HW0.out hb3) (Nat.le_refl _)
   have HFin := Lib.hid hfin
   (have hz := HZ.out.below hb3 (Nat.le_refl _); have zf := hz.frozen; obtain ⟨z0, z1, z2, z3⟩ := hz.cells; have zf0 := zf 0; have zf1 := zf 1; have zf2 := zf 2; have zf3 := zf 3; clear zf hz)
   clear hfin hb hb0 hb3 hz hn
   go_wp2_with fail
   refine bodyPost_ret (v := lo sg n l2) (by simp [results, Tryz.results15, go_sem, z0, z1, z2, z3]) rfl ?_
   exact HFin.out
open Go Go.RowKit Go.Proofs Lim
theorem siz_int (i : Int) (h1 : -9223372036854775808 ≤ i) (h2 : i ≤ 9223372036854775807) : cF (i : Rat) 1 := by
 unfold cF
 rw [Rat.num_intCast, Rat.den_intCast, Nat.pow_one]
 exact ⟨by unfold B; omega, by decide⟩
def OfPost (w : World) (i j : Int) (e : Ending) (w' : World) : Prop :=
 (j = 0 ∧ e = .returned (.tuple #[lo false 0 0, .int .i64 10]) ∧ Below w.heap.size w w') ∨ (j ≠ 0 ∧ OverQ w ((i : Rat) / (j : Rat)) e w')
theorem of_q (i j : Int) (h1 : -9223372036854775808 ≤ i) (h2 : i ≤ 9223372036854775807) (h3 : -9223372036854775808 ≤ j) (h4 : j ≤ 9223372036854775807) (w : World) (hG : Gr w) :
 Calls Tryz.prog 18 #[.int .i64 i, .int .i64 j] w (OfPost w i j) := by
 have HI := Lib.hid (fun W => int_q i h1 h2 W)
 have HJ := Lib.hid (fun W => int_q j h3 h4 W)
 have HO := Lib.hid (fun v1 v2 W (hv1 : cR W v1 (i : Rat)) (hv2 : cR W v2 (j : Rat)) (hW : Below w.heap.size w W) => show Calls Tryz.prog 34 #[v1, v2] W (OfPost W i j) by
  by_cases hj : j = 0
  · exact (over_zero v1 v2 _ _ W hv1 hv2 (by rw [Rat.num_intCast]; exact hj)).mono fun _ _ h => .inl ⟨hj, h.1, h.2⟩
  · exact (over_q v1 v2 _ _ 1 W hv1 hv2 (by rw [Rat.num_intCast]; exact hj) (siz_int i h1 h2) (siz_int j h3 h4) (by decide) (hG.below hW hG.size)).mono fun _ _ h => .inr ⟨hj, h⟩)
 clear hG h1 h2 h3 h4
 go_enter Tryz.func18, Tryz.ntmps18
 go_wp2_with fail
 obtain ⟨W0, hW0, hb0, hz, hs⟩ := boxz w; rw [← hW0]; clear hW0; have HZ := Lib.hid hz; have HW0 := Lib.hid hb0; have hb0 := Below.refl W0.heap.size W0; clear hz
 clear hs
 refine (HI.out _).mono ?_
 rintro e W1 ⟨v1, rfl, hv1, hb⟩
 have HV1 := Lib.hid hv1
 have HA := Lib.hid (cf hb0 hb)
 obtain ⟨_, _, _, _, rfl⟩ := hv1.form
 clear hb hb0 hv1
 go_wp2_with fail
 refine (HJ.out _).mono ?_
 rintro e W2 ⟨v2, rfl, hv2, hb⟩
 have HV1' := Lib.hid (HV1.out.below hb (Nat.le_refl _))
 have HV2 := Lib.hid hv2
 have HA2 := Lib.hid (cf HA.out hb)
 obtain ⟨_, _, _, _, rfl⟩ := hv2.form
 clear hb hv2
 go_wp2_with fail
 refine (HO.out _ _ _ HV1'.out HV2.out (cf HW0.out HA2.out)).mono ?_
 rintro e W3 (⟨hj, rfl, hb⟩ | ⟨hj, v, rfl, hv, hb⟩)
 · have hb3 := cf HA2.out hb
   have HB3 := Lib.hid hb3
   have HHJ := Lib.hid hj
   (have hz := HZ.out.below hb3 (Nat.le_refl _); have zf := hz.frozen; obtain ⟨z0, z1, z2, z3⟩ := hz.cells; have zf0 := zf 0; have zf1 := zf 1; have zf2 := zf 2; have zf3 := zf 3; clear zf hz)
   clear hb hb3 hj
   go_wp2_with fail
   refine bodyPost_ret (v := .tuple #[lo false 0 0, .int .i64 10]) (by simp [results, Tryz.results18, go_sem, z0, z1, z2, z3]) rfl ?_
   exact .inl ⟨HHJ.out, rfl, js HW0.out HB3.out (Nat.le_refl _) _ _ _ _⟩
 · have hb3 := cf HA2.out hb
   have hv' := hv
   obtain ⟨sg9, a9, b9, p9, rfl⟩ := hv'.form
   have hz := HZ.out.below hb3 (Nat.le_refl _)
   have hfin := cX.stored (a0 := .bool sg9) (a1 := u a9) (a2 := u b9) (a3 := .pointer p9) hz hv (cf HW0.out hb3) (Nat.le_refl _)
   have HFin := Lib.hid hfin
   have HHJ := Lib.hid hj
   (have hz := HZ.out.below hb3 (Nat.le_refl _); have zf := hz.frozen; obtain ⟨z0, z1, z2, z3⟩ := hz.cells; have zf0 := zf 0; have zf1 := zf 1; have zf2 := zf 2; have zf3 := zf 3; clear zf hz)
   clear hfin hv hv' hb hb3 hz hj
   go_wp2_with fail
   refine bodyPost_ret (v := .tuple #[.agg #[.bool sg9, u a9, u b9, .pointer p9], .int .i64 0]) (by simp [results, Tryz.results18, go_sem, z0, z1, z2, z3]) rfl ?_
   obtain ⟨v, hv, hq, hbb⟩ := HFin.out
   injection hv with hv
   subst hv
   exact .inr ⟨HHJ.out, _, rfl, hq, hbb⟩
open Go Go.RowKit Go.Proofs Lim
end Go.Proofs.YtccabfblgjcboaaGreatDoor
