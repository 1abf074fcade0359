/- Package exact: QWide QOps. -/
import Derived.Test.YtccabfblgjcboaaGreatDoorV15
set_option linter.all false

namespace Go.Proofs.YtccabfblgjcboaaGreatDoor
open Go Go.RowKit Go.Proofs Lim
theorem Num.form {w : World} {v : Value} {neg : Bool} {n d : Nat} (h : Num w v neg n d) : ∃ a b p, v = .agg #[.bool neg, u a, u b, .pointer p] ∧ a < B := by
 cases h with
 | low l hv hd hn hdB => exact ⟨_, _, _, hv, hn⟩
 | wide b x y hv hx hy h1 h2 hB h0 hd => exact ⟨_, _, _, hv, cO⟩
theorem Typed.other {W W' : World} {R : Nat} {v : Value} {cs : Array Value} {t : TypeId} {fr : Nat × Nat} (h : Typed W v) (hR : W.heap[R]? = some (.cells cs t fr)) (ht : t ≠ 23) (ho : cN R W W') : Typed W' v := by
 intro a n c e hn
 obtain ⟨cs', fr', hc⟩ := h a n c e hn
 have hne : a.block ≠ R := by
  intro e2
  rw [e2, hR] at hc
  injection hc with hc
  injection hc with _ hc
  exact ht hc
 exact ⟨cs', fr', (ho.block _ hne).trans hc⟩
theorem co.only {W W' : World} {R : Nat} {v : Value} {n : Nat} (hR : Box W R (.bool false) (.int .u64 0) (.int .u64 0) (.pointer none)) (h : co W v n) (ho : cN R W W') : co W' v n := by
 obtain ⟨xs, ⟨⟨ao, c, rfl, h1, h2, hr⟩, ok, typ⟩, ht, hv⟩ := h
 refine ⟨xs, ⟨⟨ao, c, rfl, h1, h2, fun hn => ?_⟩, ok, typ.other hR (by decide) ho⟩, ht, hv⟩
 obtain ⟨b, off, rfl, row⟩ := hr hn
 refine ⟨b, off, rfl, ?_⟩
 by_cases hb : b = R
 · exfalso
   subst hb
   have hl := row (xs.length - 1) (by omega)
   have hne : xs ≠ [] := by intro e; subst e; simp at hn
   have hz : xs[xs.length - 1]?.getD 0 ≠ 0 := by
    have := ht hne
    rw [List.getLast_eq_getElem] at this
    rw [List.getElem?_eq_getElem (by omega)]
    exact this
   generalize xs[xs.length - 1]?.getD 0 = z at *
   unfold Box at hR
   rw [World.cell?, hR] at hl
   simp only at hl
   generalize off + (xs.length - 1) = i at hl
   rcases i with _ | _ | _ | _ | i <;> simp at hl <;> omega
 · exact ho.row hb row
theorem Num.only {W W' : World} {R : Nat} {v : Value} {neg : Bool} {n d : Nat} (hR : Box W R (.bool false) (.int .u64 0) (.int .u64 0) (.pointer none)) (h : Num W v neg n d) (ho : cN R W W') : Num W' v neg n d := by
 cases h with
 | low l hv hd hn hdB => exact .low l hv hd hn hdB
 | wide b x y hv hx hy h1 h2 hB h0 hd =>
  have hb : b ≠ R := by
   intro e
   subst e
   rw [hR.cells.1] at hx
   obtain ⟨_, _, _, rfl, _⟩ := h1.form
   injection hx with hx
   exact absurd hx (by simp)
  exact .wide b x y hv ((ho.cell (p := ⟨b, 0, none⟩) hb).trans hx) ((ho.cell (p := ⟨b, 1, none⟩) hb).trans hy) (h1.only hR ho) (h2.only hR ho) hB h0 hd
theorem one_new (w : World) (x : Nat) (h0 : 0 < x) (hx : x < B) : co (w.alloc (.cells #[u x] 23)) (.slice (some ⟨w.heap.size, 0, none⟩) 1 1) x := by
 have hB : Blk (w.alloc (.cells #[u x] 23)) w.heap.size [x] := Blk.new w [x]
 have hok : Ok [x] := by intro y hy; simp at hy; omega
 refine ⟨[x], Sl.of_blk hB hok 0 1 1 (by simp) (by simp) (by unfold maxLen; omega), ?_, by simp [val]⟩
 intro h
 simp
 omega
def FracPost (w : World) (neg : Bool) (n d : Nat) (e : Ending) (w' : World) : Prop :=
 ∃ v, e = .returned v ∧ Num w' v (neg && !decide (n = 0)) n (if n = 0 then 1 else d) ∧ Below w.heap.size w w'
theorem FracPost.stored {w W : World} {R : Nat} {v : Value} {neg : Bool} {n d : Nat} {a0 a1 a2 a3 : Value} (hR : Box W R (.bool false) (.int .u64 0) (.int .u64 0) (.pointer none))
 (h : Num W v (neg && !decide (n = 0)) n (if n = 0 then 1 else d)) (hb : Below w.heap.size w W) (hw : w.heap.size ≤ R) :
 FracPost w neg n d (.returned v) ((((W.setCell ⟨R, 0, none⟩ a0).setCell ⟨R, 1, none⟩ a1).setCell ⟨R, 2, none⟩ a2).setCell ⟨R, 3, none⟩ a3) := by
 have ho := ((((cN.refl R W).set 0 a0).set 1 a1).set 2 a2).set 3 a3
 exact ⟨v, rfl, h.only hR ho, hb.trans (ho.below hw)⟩
theorem wide_new {w : World} {neg : Bool} {x y : Value} {n d : Nat} (o : Obj) (h1 : co w x n) (h2 : co w y d) (hn : 0 < n) (hd : 0 < d) (hB : ¬ (n < B ∧ d < B)) :
 FracPost w neg n d (.returned (wi neg ⟨w.heap.size + 1, 0, none⟩)) ((w.alloc o).alloc (.cells #[x, y] 126)) := by
 have hb1 := cu w o
 have hb2 := cu (w.alloc o) (.cells #[x, y] 126)
 have hb := cf hb1 hb2
 have hs : (w.alloc o).heap.size = w.heap.size + 1 := by
  show (w.heap.push _).size = _
  simp
 refine ⟨_, rfl, ?_, hb⟩
 have hn' : ¬ n = 0 := by omega
 rw [if_neg hn', show (neg && !decide (n = 0)) = neg from by simp [hn']]
 refine Num.wide (w.heap.size + 1) x y rfl ?_ ?_ (h1.below hb (Nat.le_refl _)) (h2.below hb (Nat.le_refl _)) (by omega) hn hd
 · rw [← hs]; exact World.cell?_alloc_new ..
 · rw [← hs]; exact World.cell?_alloc_new ..
theorem fraction_any (neg : Bool) (v1 v2 : Value) (n d : Nat) (w : World) (h1 : co w v1 n) (h2 : co w v2 d) (h0 : 0 < d) :
 Calls Tryz.prog 122 #[.bool neg, v1, v2] w (FracPost w neg n d) := by
 by_cases hn : n = 0
 · subst hn
   obtain ⟨ao, l, c, rfl, hl, hz, hB⟩ := h1.form
   have hl0 : l = 0 := hz.2 rfl
   subst hl0
   obtain ⟨bo, m, c', rfl, _, _, _⟩ := h2.form
   go_enter Tryz.func122, Tryz.ntmps122
   go_wp2_with fail
   refine bodyPost_ret (v := lo false 0 0) (by simp [results, Tryz.results122, go_sem]) rfl ?_
   exact ⟨_, rfl, by simpa using Num.low 0 rfl rfl cO (by decide), cu w _⟩
 · have hn0 : 0 < n := Nat.pos_of_ne_zero hn
   by_cases hw : n < B ∧ d < B
   · obtain ⟨b1, o1, c1, rfl, f1⟩ := h1.limb hn0 hw.1
     obtain ⟨b2, o2, c2, rfl, f2⟩ := h2.limb h0 hw.2
     have HS := Lib.hid (fun W => small_any neg n d hw.2 W)
     have HD := Lib.hid (difLo_one hw.2 h0)
     have HN := Lib.hid hn
     have HW := Lib.hid hw
     have H0 := Lib.hid h0
     clear hn hw h1 h2 h0 hn0
     generalize hsg : (neg && !decide (n = 0)) = sg at *
     generalize difLo d 1 = ll at *
     go_enter Tryz.func122, Tryz.ntmps122
     go_wp2_with fail
     obtain ⟨W0, hW0, hb0, hz, hs⟩ := boxz w; rw [← hW0]; clear hW0; have HZ := Lib.hid hz; have HW0 := Lib.hid hb0; have hb0 := Below.refl W0.heap.size W0; clear hz
     clear hs
     have p1 : ¬ b1 = w.heap.size := Nat.ne_of_lt (World.block_lt_of_cell? w _ f1)
     have p2 : ¬ b2 = w.heap.size := Nat.ne_of_lt (World.block_lt_of_cell? w _ f2)
     have p3 : ¬ w.heap.size = b1 := fun h => p1 h.symm
     have p4 : ¬ w.heap.size = b2 := fun h => p2 h.symm
     have HG1 := Lib.hid f1
     have HG2 := Lib.hid f2
     have f1 : W0.cell? ⟨b1, o1, none⟩ = some (u n) := (HW0.out.cell (p := ⟨b1, o1, none⟩) (World.block_lt_of_cell? w _ f1)).trans f1
     have f2 : W0.cell? ⟨b2, o2, none⟩ = some (u d) := (HW0.out.cell (p := ⟨b2, o2, none⟩) (World.block_lt_of_cell? w _ f2)).trans f2
     go_region_held3 (fun w' => w'.cell? ⟨b1, o1, none⟩ = some (u n) ∧ w'.cell? ⟨b2, o2, none⟩ = some (u d)) (go_keep) (((with_reducible refine (HS.out _).mono ?_); rintro e W1 ⟨rfl, hb⟩; have hb1 := cI hb0 hb; have i1 := (hb1.cell (p := ⟨b1, o1, none⟩) (World.block_lt_of_cell? W0 _ f1)).trans f1; have i2 := (hb1.cell (p := ⟨b2, o2, none⟩) (World.block_lt_of_cell? W0 _ f2)).trans f2; (have hz := HZ.out.below hb1 (Nat.le_refl _); have zf := hz.frozen; obtain ⟨z0, z1, z2, z3⟩ := hz.cells; have zf0 := zf 0; have zf1 := zf 1; have zf2 := zf 2; have zf3 := zf 3; clear zf hz)))
     go_wp2_with fail
     refine bodyPost_ret (v := lo sg n ll) (by simp [results, Tryz.results122, go_sem, z0, z1, z2, z3]) rfl ?_
     refine ⟨_, rfl, ?_, js HW0.out hb1 (Nat.le_refl _) _ _ _ _⟩
     rw [hsg, if_neg HN.out]
     exact Num.low ll rfl HD.out.symm HW.out.1 HW.out.2
   · obtain ⟨ao, l, c, rfl, hl, hz, hB⟩ := h1.form
     obtain ⟨bo, m, c', rfl, hm, hz', hB'⟩ := h2.form
     have HH1 := Lib.hid h1
     have HH2 := Lib.hid h2
     have HHn := Lib.hid hn
     have HHw := Lib.hid hw
     have HH0 := Lib.hid h0
     have HHn0 := Lib.hid hn0
     have hl0 : ¬ l = 0 := fun h => hn (hz.1 h)
     have hm0 : ¬ m = 0 := fun h => by have := hz'.1 h; omega
     have hlm : ¬ (l = 1 ∧ m = 1) := by
      rintro ⟨rfl, rfl⟩
      refine hw ⟨?_, ?_⟩
      · rcases Nat.lt_or_ge n B with h | h
        · exact h
        · exact absurd (hB.2 h) (by omega)
      · rcases Nat.lt_or_ge d B with h | h
        · exact h
        · exact absurd (hB'.2 h) (by omega)
     have e0 : (((l : Nat) : Int) == 0) = false := by rw [beq_eq_false_iff_ne]; omega
     clear hz hz' hB hB' hn hw h1 h2 h0 hn0
     by_cases hl1 : l = 1
     · have e1 : (((m : Nat) : Int) == 1) = false := by rw [beq_eq_false_iff_ne]; omega
       subst hl1
       clear hm0 hl0 hlm
       go_enter Tryz.func122, Tryz.ntmps122
       go_wp2_with fail
       refine bodyPost_ret (v := wi neg ⟨w.heap.size + 1, 0, none⟩) (by simp [results, Tryz.results122, go_sem]) rfl ?_
       exact wide_new _ HH1.out HH2.out HHn0.out HH0.out HHw.out
     · have e1 : (((l : Nat) : Int) == 1) = false := by rw [beq_eq_false_iff_ne]; omega
       clear hm0 hl0 hlm hl1
       go_enter Tryz.func122, Tryz.ntmps122
       go_wp2_with fail
       refine bodyPost_ret (v := wi neg ⟨w.heap.size + 1, 0, none⟩) (by simp [results, Tryz.results122, go_sem]) rfl ?_
       exact wide_new _ HH1.out HH2.out HHn0.out HH0.out HHw.out
theorem whole_any (neg : Bool) (v1 : Value) (n : Nat) (w : World) (h1 : co w v1 n) :
 Calls Tryz.prog 79 #[.bool neg, v1] w (FracPost w neg n 1) := by
 have HF := Lib.hid (fun W x (hx : co W x 1) (hb : Below w.heap.size w W) => fraction_any neg v1 x n 1 W (h1.below hb (Nat.le_refl _)) hx (by omega))
 obtain ⟨ao, l, c, rfl, _, _, _⟩ := h1.form
 clear h1
 go_enter Tryz.func79, Tryz.ntmps79
 go_wp2_with fail
 obtain ⟨W0, hW0, hb0, hz, hs⟩ := boxz w; rw [← hW0]; clear hW0; have HZ := Lib.hid hz; have HW0 := Lib.hid hb0; have hb0 := Below.refl W0.heap.size W0; clear hz
 have h1n := one_new W0 1 (by decide) (by decide)
 have hb1 := cu W0 (.cells #[u 1] 23)
 rw [hs] at h1n
 have hb2 := cf hb0 hb1
 refine (HF.out _ _ h1n (cf HW0.out hb2)).mono ?_
 rintro e W1 ⟨v, rfl, hN, hb⟩
 have hb3 := cf hb2 hb
 obtain ⟨a, b, p, rfl, _⟩ := hN.form
 have HN := Lib.hid hN
 have HB3 := Lib.hid hb3
 (have hz := HZ.out.below hb3 (Nat.le_refl _); have zf := hz.frozen; obtain ⟨z0, z1, z2, z3⟩ := hz.cells; have zf0 := zf 0; have zf1 := zf 1; have zf2 := zf 2; have zf3 := zf 3; clear zf hz)
 clear hN hb0 hb1 hb2 hb hb3 h1n
 have hz := HZ.out.below HB3.out (Nat.le_refl _)
 have hfin := FracPost.stored (a0 := .bool (neg && !decide (n = 0))) (a1 := u a) (a2 := u b) (a3 := .pointer p) hz HN.out (cf HW0.out HB3.out) (Nat.le_refl _)
 have HFin := Lib.hid hfin
 clear hfin hz HN
 generalize (neg && !decide (n = 0)) = sg at *
 go_wp2_with fail
 refine bodyPost_ret (v := .agg #[.bool sg, u a, u b, .pointer p]) (by simp [results, Tryz.results79, go_sem, z0, z1, z2, z3]) rfl ?_
 exact HFin.out
def PartsPost (w : World) (n d : Nat) (e : Ending) (w' : World) : Prop := ∃ x y, e = .returned (.tuple #[x, y]) ∧ co w' x n ∧ co w' y d ∧ Below w.heap.size w w'
theorem parts_any (v : Value) (neg : Bool) (n d : Nat) (w : World) (h : Num w v neg n d) :
 Calls Tryz.prog 84 #[v] w (PartsPost w n d) := by
 cases h with
 | low l hv hd hn hdB =>
  subst hv hd
  have HW1 := Lib.hid (fun W => word_any n W hn)
  have HW2 := Lib.hid (fun W => word_any (l + 1) W hdB)
  have HBo := Lib.hid (fun W => bottom_any neg n l none hdB W)
  clear hn hdB
  generalize l + 1 = d at *
  go_enter Tryz.func84, Tryz.ntmps84
  go_wp2_with fail
  obtain ⟨W0, hW0, hb0, ⟨f0, f1, f2, f3⟩⟩ := box1 w (.bool neg) (u n) (u l) (.pointer none); rw [← hW0]; clear hW0
  go_region_held3 (fun w' => (w'.cell? ⟨w.heap.size, 0, none⟩ = some (.bool neg) ∧ w'.cell? ⟨w.heap.size, 1, none⟩ = some (u n) ∧ w'.cell? ⟨w.heap.size, 2, none⟩ = some (u l) ∧ w'.cell? ⟨w.heap.size, 3, none⟩ = some (.pointer none))) (go_keep) (first | ((with_reducible refine (HW1.out _).mono ?_); rintro e W1 ⟨x, rfl, hx, hb⟩; (obtain ⟨_, _, _, _⟩ := cq (b := w.heap.size) hb (by assumption) (by assumption) (by assumption) (by assumption))) | ((with_reducible refine (HBo.out _).mono ?_); rintro e W2 ⟨rfl, hb'⟩; (obtain ⟨_, _, _, _⟩ := cq (b := w.heap.size) hb' (by assumption) (by assumption) (by assumption) (by assumption))) | ((with_reducible refine (HW2.out _).mono ?_); rintro e W3 ⟨y, rfl, hy, hb''⟩; (obtain ⟨_, _, _, _⟩ := cq (b := w.heap.size) hb'' (by assumption) (by assumption) (by assumption) (by assumption))))
  have HX := Lib.hid hx
  have HY := Lib.hid hy
  have HBa := Lib.hid (cI hb0 hb)
  have HBb := Lib.hid hb'
  have HBc := Lib.hid hb''
  clear hx hy hb0 hb hb' hb'' f0 f1 f2 f3
  go_wp2_with fail
  refine bodyPost_ret (v := .tuple #[x, y]) (by simp [results, Tryz.results84, go_sem]) rfl ?_
  exact ⟨x, y, rfl, (HX.out.below HBb.out (Nat.le_refl _)).below HBc.out (Nat.le_refl _), HY.out, cf (cf HBa.out HBb.out) HBc.out⟩
 | wide b x y hv hx hy h1 h2 hB h0 hd =>
  subst hv
  have H1 := Lib.hid h1
  have H2 := Lib.hid h2
  obtain ⟨xa, xl, xc, rfl, _, _, _⟩ := h1.form
  obtain ⟨ya, yl, yc, rfl, _, _, _⟩ := h2.form
  clear h1 h2 hB h0 hd
  go_enter Tryz.func84, Tryz.ntmps84
  go_wp2_with fail
  obtain ⟨W0, hW0, hb0, ⟨f0, f1, f2, f3⟩⟩ := box1 w (.bool neg) (u 0) (u 0) (.pointer (some ⟨b, 0, none⟩)); rw [← hW0]; clear hW0
  have g0 : W0.cell? ⟨b, 0, none⟩ = some (.slice xa xl xc) := (hb0.cell (p := ⟨b, 0, none⟩) (World.block_lt_of_cell? w _ hx)).trans hx
  have g1 : W0.cell? ⟨b, 1, none⟩ = some (.slice ya yl yc) := (hb0.cell (p := ⟨b, 1, none⟩) (World.block_lt_of_cell? w _ hy)).trans hy
  clear hx hy
  have HB0 := Lib.hid hb0
  clear hb0
  go_quiet (fail)
  go_wp2_with fail
  refine bodyPost_ret (v := .tuple #[.slice xa xl xc, .slice ya yl yc]) (by simp [results, Tryz.results84, go_sem]) rfl ?_
  have hB := bdrewN (n := nq) HB0.out
  exact ⟨_, _, rfl, H1.out.below hB (Nat.le_refl _), H2.out.below hB (Nat.le_refl _), hB⟩
def AddNPost (w : World) (neg : Bool) (t : Nat) (e : Ending) (w' : World) : Prop := ∃ v, e = .returned (.tuple #[.bool neg, v]) ∧ co w' v t ∧ Below w.heap.size w w'
theorem addSigned_any (a b : Bool) (v1 v2 : Value) (x y k : Nat) (w : World) (h1 : co w v1 x) (h2 : co w v2 y) (hx : x < B ^ k) (hy : y < B ^ k) (hk : (k : Int) ≤ 1073741824) :
 Calls Tryz.prog 131 #[.bool a, v1, .bool b, v2] w (AddNPost w (addS a x b y).1 (addS a x b y).2) := by
 have HP := Lib.hid (fun W (hW : Below w.heap.size w W) => plus_any v1 v2 x y k W (h1.below hW (Nat.le_refl _)) (h2.below hW (Nat.le_refl _)) hx hy hk)
 have HC := Lib.hid (fun W (hW : Below w.heap.size w W) => compare_any v1 v2 x y W (h1.below hW (Nat.le_refl _)) (h2.below hW (Nat.le_refl _)))
 have HM := Lib.hid (fun (h : y ≤ x) W (hW : Below w.heap.size w W) => minus_any v1 v2 x y k W (h1.below hW (Nat.le_refl _)) (h2.below hW (Nat.le_refl _)) hx h hk)
 have HM' := Lib.hid (fun (h : x ≤ y) W (hW : Below w.heap.size w W) => minus_any v2 v1 y x k W (h2.below hW (Nat.le_refl _)) (h1.below hW (Nat.le_refl _)) hy h hk)
 obtain ⟨xa, xl, xc, rfl, _, _, _⟩ := h1.form
 obtain ⟨ya, yl, yc, rfl, _, _, _⟩ := h2.form
 clear h1 h2 hx hy
 by_cases hab : a = b
 · subst hab
   go_enter Tryz.func131, Tryz.ntmps131
   go_wp2_with fail
   refine (HP.out w (Below.refl _ _)).mono ?_
   rintro e W1 ⟨v, rfl, hv, hb⟩
   have HV := Lib.hid hv
   have HB := Lib.hid hb
   clear hv hb
   go_wp2_with fail
   refine bodyPost_ret (v := .tuple #[.bool a, v]) (by simp [results, Tryz.results131, go_sem]) rfl ?_
   rw [show addS a x a y = (a, x + y) from by simp [addS]]
   exact ⟨v, rfl, HV.out, HB.out⟩
 · have hab' : (a == b) = false := by simpa using hab
   have HAB := Lib.hid hab
   clear hab
   by_cases hc : y ≤ x
   · have hcv : 0 ≤ cD x y := by unfold cD; split <;> first | omega | (split <;> omega)
     have HHC := Lib.hid hc
     clear hc
     generalize cD x y = cv at *
     go_enter Tryz.func131, Tryz.ntmps131
     go_wp2_with fail
     refine (HC.out w (Below.refl _ _)).mono ?_
     rintro e W1 ⟨rfl, q, rfl⟩
     go_wp2_with fail
     refine (HM.out HHC.out _ (bdrewN (Below.refl _ _))).mono ?_
     rintro e W1 ⟨v, rfl, hv, hb⟩
     have HV := Lib.hid hv
     have HB := Lib.hid ((bdrewN (n := q) (Below.refl w.heap.size w)).trans hb)
     clear hv hb
     go_wp2_with fail
     refine bodyPost_ret (v := .tuple #[.bool a, v]) (by simp [results, Tryz.results131, go_sem]) rfl ?_
     rw [show addS a x b y = (a, x - y) from by simp [addS, HAB.out, HHC.out]]
     exact ⟨v, rfl, HV.out, HB.out⟩
   · have hcv : ¬ 0 ≤ cD x y := by unfold cD; split <;> omega
     have HHC := Lib.hid hc
     clear hc
     generalize cD x y = cv at *
     go_enter Tryz.func131, Tryz.ntmps131
     go_wp2_with fail
     refine (HC.out w (Below.refl _ _)).mono ?_
     rintro e W1 ⟨rfl, q, rfl⟩
     go_wp2_with fail
     refine (HM'.out (by have := HHC.out; omega) _ (bdrewN (Below.refl _ _))).mono ?_
     rintro e W1 ⟨v, rfl, hv, hb⟩
     have HV := Lib.hid hv
     have HB := Lib.hid ((bdrewN (n := q) (Below.refl w.heap.size w)).trans hb)
     clear hv hb
     go_wp2_with fail
     refine bodyPost_ret (v := .tuple #[.bool b, v]) (by simp [results, Tryz.results131, go_sem]) rfl ?_
     rw [show addS a x b y = (b, y - x) from by simp [addS, HAB.out, HHC.out]]
     exact ⟨v, rfl, HV.out, HB.out⟩
open Go Go.RowKit Go.Proofs Lim
theorem mul_lt_pow {x y j k : Nat} (hx : x < B ^ j) (hy : y < B ^ k) : x * y < B ^ (j + k) := by
 rw [Nat.pow_add]
 exact Nat.mul_lt_mul'' hx hy
theorem compareWide_any (v1 v2 : Value) (neg1 neg2 : Bool) (n1 d1 n2 d2 k : Nat) (w : World) (h1 : Num w v1 neg1 n1 d1) (h2 : Num w v2 neg2 n2 d2)
 (hn1 : n1 < B ^ k) (hd1 : d1 < B ^ k) (hn2 : n2 < B ^ k) (hd2 : d2 < B ^ k) (hk : (k : Int) ≤ 1073741824) :
 Calls Tryz.prog 98 #[v1, v2] w (Val w (.int .i64 (cD (n1 * d2) (n2 * d1)))) := by
 have HP1 := Lib.hid (fun W (hW : Below w.heap.size w W) => parts_any v1 neg1 n1 d1 W (h1.below hW (Nat.le_refl _)))
 have HP2 := Lib.hid (fun W (hW : Below w.heap.size w W) => parts_any v2 neg2 n2 d2 W (h2.below hW (Nat.le_refl _)))
 obtain ⟨a1, b1, p1, rfl, _⟩ := h1.form
 obtain ⟨a2, b2, p2, rfl, _⟩ := h2.form
 have HT1 := Lib.hid (fun x y W (hx : co W x n1) (hy : co W y d2) => times_any x y n1 d2 k W hx hy hn1 hd2 hk)
 have HT2 := Lib.hid (fun x y W (hx : co W x n2) (hy : co W y d1) => times_any x y n2 d1 k W hx hy hn2 hd1 hk)
 clear h1 h2 hn1 hd1 hn2 hd2
 go_enter Tryz.func98, Tryz.ntmps98
 go_wp2_with fail
 obtain ⟨W0, hW0, hb0, ⟨f0, f1, f2, f3⟩, ⟨g0, g1, g2, g3⟩⟩ := box2 w (.bool neg1) (u a1) (u b1) (.pointer p1) (.bool neg2) (u a2) (u b2) (.pointer p2); rw [← hW0]; clear hW0
 refine (HP1.out _ hb0).mono ?_
 rintro e W1 ⟨x1, y1, rfl, hx1, hy1, hb⟩
 (obtain ⟨_, _, _, _⟩ := cq (b := w.heap.size) hb (by assumption) (by assumption) (by assumption) (by assumption); obtain ⟨_, _, _, _⟩ := cq (b := w.heap.size + 1) hb (by assumption) (by assumption) (by assumption) (by assumption))
 have hb1 := cf hb0 hb
 obtain ⟨xa1, xl1, xc1, rfl, _⟩ := hx1.form
 obtain ⟨ya1, yl1, yc1, rfl, _⟩ := hy1.form
 have HX1 := Lib.hid hx1
 have HY1 := Lib.hid hy1
 have HA1 := Lib.hid hb1
 clear hb0 hb hb1 hx1 hy1 f0 f1 f2 f3 g0 g1 g2 g3
 go_wp2_with fail
 refine (HP2.out _ HA1.out).mono ?_
 rintro e W2 ⟨x2, y2, rfl, hx2, hy2, hb⟩
 (obtain ⟨_, _, _, _⟩ := cq (b := w.heap.size) hb (by assumption) (by assumption) (by assumption) (by assumption); obtain ⟨_, _, _, _⟩ := cq (b := w.heap.size + 1) hb (by assumption) (by assumption) (by assumption) (by assumption))
 obtain ⟨xa2, xl2, xc2, rfl, _⟩ := hx2.form
 obtain ⟨ya2, yl2, yc2, rfl, _⟩ := hy2.form
 have HX1' := Lib.hid (HX1.out.below hb (Nat.le_refl _))
 have HY1' := Lib.hid (HY1.out.below hb (Nat.le_refl _))
 have HX2 := Lib.hid hx2
 have HY2 := Lib.hid hy2
 have HA2 := Lib.hid (cf HA1.out hb)
 clear hb hx2 hy2 HA1 HX1 HY1
 go_wp2_with fail
 refine (HT1.out _ _ _ HX1'.out HY2.out).mono ?_
 rintro e W3 ⟨z1, rfl, hz1, hb⟩
 obtain ⟨za1, zl1, zc1, rfl, _⟩ := hz1.form
 have HX2' := Lib.hid (HX2.out.below hb (Nat.le_refl _))
 have HY1'' := Lib.hid (HY1'.out.below hb (Nat.le_refl _))
 have HZ1 := Lib.hid hz1
 have HA3 := Lib.hid (cf HA2.out hb)
 clear hb hz1 HA2 HX1' HX2 HY1' HY2
 go_wp2_with fail
 refine (HT2.out _ _ _ HX2'.out HY1''.out).mono ?_
 rintro e W4 ⟨z2, rfl, hz2, hb⟩
 obtain ⟨za2, zl2, zc2, rfl, _⟩ := hz2.form
 have HZ1' := Lib.hid (HZ1.out.below hb (Nat.le_refl _))
 have HZ2 := Lib.hid hz2
 have HA4 := Lib.hid (cf HA3.out hb)
 clear hb hz2 HA3 HX2' HY1'' HZ1
 go_wp2_with fail
 refine (compare_any _ _ _ _ _ HZ1'.out HZ2.out).mono ?_
 rintro e W5 ⟨rfl, q, rfl⟩
 generalize cD (n1 * d2) (n2 * d1) = cv at *
 go_wp2_with fail
 go_ret
 exact ⟨rfl, bdrewN HA4.out⟩
end Go.Proofs.YtccabfblgjcboaaGreatDoor
