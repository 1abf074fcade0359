/- Package exact, part 3: what its functions answer, as laws on the numbers that their values stand for (QAdd QSign QMinus QCmp QRecip QOver QInt QOf QInt64 Cut QCut QFloor QText ReadNat Size QSize QRead QParts SpBase SpAround SpSort SpHas SpWith SpUnder SpUnder1 SpSquare SpQuad SpQuadr SpMath SpAbs SpOver KnownMath KnownBox). -/
import Derived.Test.YtccabfblgjcboaaGreatDoorK2
import Derived.Lib.ParseIntB
import Derived.KernelRfl
set_option linter.unusedVariables false
set_option linter.unusedSimpArgs false

namespace Go.Proofs.YtccabfblgjcboaaGreatDoor
open Go Go.RowKit Go.Proofs Lim
theorem QNew.stored {w W : World} {R : Nat} {v : Value} {r : Rat} {a0 a1 a2 a3 : Value} (hR : Box W R (.bool false) (.int .u64 0) (.int .u64 0) (.pointer none))
    (h : IsQ W v r) (hb : Below w.heap.size w W) (hw : w.heap.size ≤ R) :
    QNew w r (.returned v) ((((W.setCell ⟨R, 0, none⟩ a0).setCell ⟨R, 1, none⟩ a1).setCell ⟨R, 2, none⟩ a2).setCell ⟨R, 3, none⟩ a3) := by
  have ho := ((((Only.refl R W).set 0 a0).set 1 a1).set 2 a2).set 3 a3
  exact ⟨v, rfl, Num.only hR h ho, hb.trans (ho.below hw)⟩
theorem IsQ.form {w : World} {v : Value} {r : Rat} (h : IsQ w v r) : ∃ sg a b p, v = .agg #[.bool sg, u a, u b, .pointer p] := by
  obtain ⟨a, b, p, h, _⟩ := Num.form h
  exact ⟨_, a, b, p, h⟩
theorem plusWide_q (v1 v2 : Value) (r s : Rat) (k : Nat) (w : World) (h1 : IsQ w v1 r) (h2 : IsQ w v2 s) (z1 : Siz r k) (z2 : Siz s k) (hk : ((k + k + 1 : Nat) : Int) ≤ 1073741824) (hG : Gr w) :
    Calls Tryz.prog 92 #[v1, v2] w (QNew w (r + s)) :=
  (plusWide_any v1 v2 _ _ _ _ _ _ k w h1 h2 z1.1 z1.2 z2.1 z2.2 r.den_pos s.den_pos hk hG).mono fun _ _ h => h.q (add_parts r s).1 (add_parts r s).2
theorem timesWide_q (v1 v2 : Value) (r s : Rat) (k : Nat) (w : World) (h1 : IsQ w v1 r) (h2 : IsQ w v2 s) (z1 : Siz r k) (z2 : Siz s k) (hk : (k : Int) ≤ 1073741824) (hG : Gr w) :
    Calls Tryz.prog 78 #[v1, v2] w (QNew w (r * s)) :=
  (timesWide_any v1 v2 _ _ _ _ _ _ k w h1 h2 z1.1 z1.2 z2.1 z2.2 r.den_pos s.den_pos hk hG).mono fun _ _ h => h.q (mul_parts r s).1 (mul_parts r s).2
def SmallQ (w : World) (r : Rat) (e : Ending) (w' : World) : Prop :=
  ∃ a b c, ∃ ok : Bool, e = .returned (.tuple #[lo a b c, .bool ok]) ∧ (ok = true → ∀ W, IsQ W (lo a b c) r) ∧ Below w.heap.size w w'
theorem SmallPost.q {w w' : World} {neg : Bool} {n d : Nat} {e : Ending} {r : Rat} (h : SmallPost w neg n d e w') (hn : r.num = sgn neg n) (hd : r.den = d) : SmallQ w r e w' := by
  obtain ⟨a, b, c, ok, he, h1, h2, hb⟩ := h
  refine ⟨a, b, c, ok, he, fun hok W => ?_, hb⟩
  obtain ⟨i1, i2⟩ := h2 hok
  obtain ⟨j1, j2, j3⟩ := h1 hok ⟨i1, i2, hd ▸ r.den_pos⟩
  unfold IsQ
  rw [hn, sgn_abs, sgn_neg, ← j1, hd, ← j2]
  exact Num.low c rfl j3.symm (j2 ▸ i1) i2
theorem IsQ.forms {w : World} {v : Value} {r : Rat} (h : IsQ w v r) :
    (∃ l, v = lo (neg? r) r.num.natAbs l ∧ r.den = l + 1 ∧ r.num.natAbs < B ∧ r.den < B) ∨ (∃ b, v = wi (neg? r) ⟨b, 0, none⟩) := by
  cases h with
  | low l hv hd hn hdB => exact .inl ⟨l, hv, hd, hn, hdB⟩
  | wide b x y hv hx hy h1 h2 hB h0 hd => exact .inr ⟨b, hv⟩
theorem plusSmall_q (r s : Rat) (l1 l2 : Nat) (w : World) (d1 : r.den = l1 + 1) (d2 : s.den = l2 + 1) (h1 : r.num.natAbs < B) (h2 : r.den < B) (h3 : s.num.natAbs < B) (h4 : s.den < B) (hG : Gr w) :
    Calls Tryz.prog 91 #[lo (neg? r) r.num.natAbs l1, lo (neg? s) s.num.natAbs l2] w (SmallQ w (r + s)) := by
  refine (plusSmall_any (neg? r) (neg? s) _ l1 _ l2 h1 (d1 ▸ h2) h3 (d2 ▸ h4) w hG).mono fun _ _ h => ?_
  rw [← d1, ← d2] at h
  exact h.q (add_parts r s).1 (add_parts r s).2
theorem timesSmall_q (r s : Rat) (l1 l2 : Nat) (w : World) (d1 : r.den = l1 + 1) (d2 : s.den = l2 + 1) (h1 : r.num.natAbs < B) (h2 : r.den < B) (h3 : s.num.natAbs < B) (h4 : s.den < B) (hG : Gr w) :
    Calls Tryz.prog 96 #[lo (neg? r) r.num.natAbs l1, lo (neg? s) s.num.natAbs l2] w (SmallQ w (r * s)) := by
  refine (timesSmall_any (neg? r) (neg? s) _ l1 _ l2 h1 (d1 ▸ h2) h3 (d2 ▸ h4) w hG).mono fun _ _ h => ?_
  rw [← d1, ← d2] at h
  refine h.q ?_ (mul_parts r s).2
  have := (mul_parts r s).1
  rw [this]
  congr 1
theorem plus_q (v1 v2 : Value) (r s : Rat) (k : Nat) (w : World) (h1 : IsQ w v1 r) (h2 : IsQ w v2 s) (z1 : Siz r k) (z2 : Siz s k) (hk : ((k + k + 1 : Nat) : Int) ≤ 1073741824) (hG : Gr w) :
    Calls Tryz.prog 25 #[v1, v2] w (QNew w (r + s)) := by
  have HW := Lib.hid (fun W (hW : Below w.heap.size w W) => plusWide_q v1 v2 r s k W (h1.below hW (Nat.le_refl _)) (h2.below hW (Nat.le_refl _)) z1 z2 hk (hG.below hW hG.size))
  rcases h1.forms with ⟨l1, rfl, d1, i1, j1⟩ | ⟨b1, rfl⟩
  · rcases h2.forms with ⟨l2, rfl, d2, i2, j2⟩ | ⟨b2, rfl⟩
    · have HS := Lib.hid (fun W (hW : Below w.heap.size w W) => plusSmall_q r s l1 l2 W d1 d2 i1 j1 i2 j2 (hG.below hW hG.size))
      clear h1 h2 z1 z2 hk hG d1 d2 j1 j2
      generalize neg? r = neg1 at *
      generalize neg? s = neg2 at *
      generalize r.num.natAbs = n1 at *
      generalize s.num.natAbs = n2 at *
      generalize r + s = t at *
      go_enter Tryz.func25, Tryz.ntmps25
      go_wp2_with fail
      obtain ⟨W0, hW0, hb0, ⟨f0, f1, f2, f3⟩, ⟨g0, g1, g2, g3⟩, hz⟩ := box3 w (.bool neg1) (u n1) (u l1) (.pointer none) (.bool neg2) (u n2) (u l2) (.pointer none); rw [← hW0]; clear hW0; have HZ := Lib.hid hz; have HW0 := Lib.hid hb0; have hb0 := Below.refl W0.heap.size W0; clear hz
      refine (HS.out _ (chain1 HW0.out hb0)).mono ?_
      rintro e W1 ⟨a, b, c, ok, rfl, hok, hb⟩
      (obtain ⟨_, _, _, _⟩ := boxq (b := w.heap.size) hb (by assumption) (by assumption) (by assumption) (by assumption); obtain ⟨_, _, _, _⟩ := boxq (b := w.heap.size + 1) hb (by assumption) (by assumption) (by assumption) (by assumption))
      have HA := Lib.hid (chain1 hb0 hb)
      have HOK := Lib.hid hok
      clear hb0 hb hok f0 f1 f2 f3 g0 g1 g2 g3
      (have hz := HZ.out.below HA.out (Nat.le_refl _); have zf := hz.frozen; obtain ⟨z0, z1, z2, z3⟩ := hz.cells; have zf0 := zf 0; have zf1 := zf 1; have zf2 := zf 2; have zf3 := zf 3; clear zf hz)
      have q0 : w.heap.size < W1.heap.size := World.block_lt_of_cell? W1 ⟨w.heap.size, 0, none⟩ (by assumption)
      have q1 : w.heap.size + 1 < W1.heap.size := World.block_lt_of_cell? W1 ⟨w.heap.size + 1, 0, none⟩ (by assumption)
      have q2 : w.heap.size + 1 + 1 < W1.heap.size := World.block_lt_of_cell? W1 ⟨w.heap.size + 1 + 1, 0, none⟩ z0
      cases ok
      · go_wp2_with fail
        have HA' := Lib.hid (chain1 HA.out (below1 W1 (.cells #[.bool a, .int .u64 (b : Int), .int .u64 (c : Int), .pointer none] 26)))
        clear z0 z1 z2 z3 zf0 zf1 zf2 zf3 q0 q1 q2
        refine (HW.out _ (chain1 HW0.out HA'.out)).mono ?_
        rintro e W9 ⟨v, rfl, hN, hb⟩
        have hb3 := chain1 HA'.out hb
        have hN' := hN
        obtain ⟨sg, a9, b9, p9, rfl⟩ := hN'.form
        have hz := HZ.out.below hb3 (Nat.le_refl _)
        have hfin := QNew.stored (a0 := .bool sg) (a1 := u a9) (a2 := u b9) (a3 := .pointer p9) hz hN (chain1 HW0.out hb3) (by omega)
        have HFin := Lib.hid hfin
        (have hz := HZ.out.below hb3 (Nat.le_refl _); have zf := hz.frozen; obtain ⟨z0, z1, z2, z3⟩ := hz.cells; have zf0 := zf 0; have zf1 := zf 1; have zf2 := zf 2; have zf3 := zf 3; clear zf hz)
        clear hfin hN hN' hb hb3
        go_wp2_with fail
        refine bodyPost_ret (v := .agg #[.bool sg, u a9, u b9, .pointer p9]) (by simp [results, Tryz.results25, go_sem, z0, z1, z2, z3]) rfl ?_
        exact HFin.out
      · have hT := HOK.out rfl
        have HT := Lib.hid hT
        clear hT
        go_wp2_with fail
        refine bodyPost_ret (v := lo a b c) (by simp [results, Tryz.results25, go_sem, z0, z1, z2, z3, q2]) rfl ?_
        exact ⟨_, rfl, HT.out _, (store4 HW0.out HA.out (by omega) _ _ _ _).trans ((below1 _ _).mono (store4 HW0.out HA.out (by omega) _ _ _ _).size)⟩
    · clear h1 h2 z1 z2 hk hG
      generalize neg? r = neg1 at *
      generalize neg? s = neg2 at *
      generalize r.num.natAbs = n1 at *
      generalize r + s = t at *
      clear d1 i1 j1
      go_enter Tryz.func25, Tryz.ntmps25
      go_wp2_with fail
      obtain ⟨W0, hW0, hb0, ⟨f0, f1, f2, f3⟩, ⟨g0, g1, g2, g3⟩, hz⟩ := box3 w (.bool neg1) (u n1) (u l1) (.pointer none) (.bool neg2) (u 0) (u 0) (.pointer (some ⟨b2, 0, none⟩)); rw [← hW0]; clear hW0; have HZ := Lib.hid hz; have HW0 := Lib.hid hb0; have hb0 := Below.refl W0.heap.size W0; clear hz
      refine (HW.out _ (chain1 HW0.out hb0)).mono ?_
      rintro e W9 ⟨v, rfl, hN, hb⟩
      have hb3 := chain1 hb0 hb
      have hN' := hN
      obtain ⟨sg, a9, b9, p9, rfl⟩ := hN'.form
      have hz := HZ.out.below hb3 (Nat.le_refl _)
      have hfin := QNew.stored (a0 := .bool sg) (a1 := u a9) (a2 := u b9) (a3 := .pointer p9) hz hN (chain1 HW0.out hb3) (by omega)
      have HFin := Lib.hid hfin
      (have hz := HZ.out.below hb3 (Nat.le_refl _); have zf := hz.frozen; obtain ⟨z0, z1, z2, z3⟩ := hz.cells; have zf0 := zf 0; have zf1 := zf 1; have zf2 := zf 2; have zf3 := zf 3; clear zf hz)
      clear hfin hN hN' hb hb3
      go_wp2_with fail
      refine bodyPost_ret (v := .agg #[.bool sg, u a9, u b9, .pointer p9]) (by simp [results, Tryz.results25, go_sem, z0, z1, z2, z3]) rfl ?_
      exact HFin.out
  · obtain ⟨neg2, a2, b2, p2, rfl⟩ := h2.form
    clear h1 h2 z1 z2 hk hG
    generalize neg? r = neg1 at *
    generalize r + s = t at *
    go_enter Tryz.func25, Tryz.ntmps25
    go_wp2_with fail
    obtain ⟨W0, hW0, hb0, ⟨f0, f1, f2, f3⟩, ⟨g0, g1, g2, g3⟩, hz⟩ := box3 w (.bool neg1) (u 0) (u 0) (.pointer (some ⟨b1, 0, none⟩)) (.bool neg2) (u a2) (u b2) (.pointer p2); rw [← hW0]; clear hW0; have HZ := Lib.hid hz; have HW0 := Lib.hid hb0; have hb0 := Below.refl W0.heap.size W0; clear hz
    refine (HW.out _ (chain1 HW0.out hb0)).mono ?_
    rintro e W9 ⟨v, rfl, hN, hb⟩
    have hb3 := chain1 hb0 hb
    have hN' := hN
    obtain ⟨sg, a9, b9, p9, rfl⟩ := hN'.form
    have hz := HZ.out.below hb3 (Nat.le_refl _)
    have hfin := QNew.stored (a0 := .bool sg) (a1 := u a9) (a2 := u b9) (a3 := .pointer p9) hz hN (chain1 HW0.out hb3) (by omega)
    have HFin := Lib.hid hfin
    (have hz := HZ.out.below hb3 (Nat.le_refl _); have zf := hz.frozen; obtain ⟨z0, z1, z2, z3⟩ := hz.cells; have zf0 := zf 0; have zf1 := zf 1; have zf2 := zf 2; have zf3 := zf 3; clear zf hz)
    clear hfin hN hN' hb hb3
    go_wp2_with fail
    refine bodyPost_ret (v := .agg #[.bool sg, u a9, u b9, .pointer p9]) (by simp [results, Tryz.results25, go_sem, z0, z1, z2, z3]) rfl ?_
    exact HFin.out
theorem times_q (v1 v2 : Value) (r s : Rat) (k : Nat) (w : World) (h1 : IsQ w v1 r) (h2 : IsQ w v2 s) (z1 : Siz r k) (z2 : Siz s k) (hk : (k : Int) ≤ 1073741824) (hG : Gr w) :
    Calls Tryz.prog 29 #[v1, v2] w (QNew w (r * s)) := by
  have HW := Lib.hid (fun W (hW : Below w.heap.size w W) => timesWide_q v1 v2 r s k W (h1.below hW (Nat.le_refl _)) (h2.below hW (Nat.le_refl _)) z1 z2 hk (hG.below hW hG.size))
  rcases h1.forms with ⟨l1, rfl, d1, i1, j1⟩ | ⟨b1, rfl⟩
  · rcases h2.forms with ⟨l2, rfl, d2, i2, j2⟩ | ⟨b2, rfl⟩
    · have HS := Lib.hid (fun W (hW : Below w.heap.size w W) => timesSmall_q r s l1 l2 W d1 d2 i1 j1 i2 j2 (hG.below hW hG.size))
      clear h1 h2 z1 z2 hk hG d1 d2 j1 j2
      generalize neg? r = neg1 at *
      generalize neg? s = neg2 at *
      generalize r.num.natAbs = n1 at *
      generalize s.num.natAbs = n2 at *
      generalize r * s = t at *
      go_enter Tryz.func29, Tryz.ntmps29
      go_wp2_with fail
      obtain ⟨W0, hW0, hb0, ⟨f0, f1, f2, f3⟩, ⟨g0, g1, g2, g3⟩, hz⟩ := box3 w (.bool neg1) (u n1) (u l1) (.pointer none) (.bool neg2) (u n2) (u l2) (.pointer none); rw [← hW0]; clear hW0; have HZ := Lib.hid hz; have HW0 := Lib.hid hb0; have hb0 := Below.refl W0.heap.size W0; clear hz
      refine (HS.out _ (chain1 HW0.out hb0)).mono ?_
      rintro e W1 ⟨a, b, c, ok, rfl, hok, hb⟩
      (obtain ⟨_, _, _, _⟩ := boxq (b := w.heap.size) hb (by assumption) (by assumption) (by assumption) (by assumption); obtain ⟨_, _, _, _⟩ := boxq (b := w.heap.size + 1) hb (by assumption) (by assumption) (by assumption) (by assumption))
      have HA := Lib.hid (chain1 hb0 hb)
      have HOK := Lib.hid hok
      clear hb0 hb hok f0 f1 f2 f3 g0 g1 g2 g3
      (have hz := HZ.out.below HA.out (Nat.le_refl _); have zf := hz.frozen; obtain ⟨z0, z1, z2, z3⟩ := hz.cells; have zf0 := zf 0; have zf1 := zf 1; have zf2 := zf 2; have zf3 := zf 3; clear zf hz)
      have q0 : w.heap.size < W1.heap.size := World.block_lt_of_cell? W1 ⟨w.heap.size, 0, none⟩ (by assumption)
      have q1 : w.heap.size + 1 < W1.heap.size := World.block_lt_of_cell? W1 ⟨w.heap.size + 1, 0, none⟩ (by assumption)
      have q2 : w.heap.size + 1 + 1 < W1.heap.size := World.block_lt_of_cell? W1 ⟨w.heap.size + 1 + 1, 0, none⟩ z0
      cases ok
      · go_wp2_with fail
        have HA' := Lib.hid (chain1 HA.out (below1 W1 (.cells #[.bool a, .int .u64 (b : Int), .int .u64 (c : Int), .pointer none] 26)))
        clear z0 z1 z2 z3 zf0 zf1 zf2 zf3 q0 q1 q2
        refine (HW.out _ (chain1 HW0.out HA'.out)).mono ?_
        rintro e W9 ⟨v, rfl, hN, hb⟩
        have hb3 := chain1 HA'.out hb
        have hN' := hN
        obtain ⟨sg, a9, b9, p9, rfl⟩ := hN'.form
        have hz := HZ.out.below hb3 (Nat.le_refl _)
        have hfin := QNew.stored (a0 := .bool sg) (a1 := u a9) (a2 := u b9) (a3 := .pointer p9) hz hN (chain1 HW0.out hb3) (by omega)
        have HFin := Lib.hid hfin
        (have hz := HZ.out.below hb3 (Nat.le_refl _); have zf := hz.frozen; obtain ⟨z0, z1, z2, z3⟩ := hz.cells; have zf0 := zf 0; have zf1 := zf 1; have zf2 := zf 2; have zf3 := zf 3; clear zf hz)
        clear hfin hN hN' hb hb3
        go_wp2_with fail
        refine bodyPost_ret (v := .agg #[.bool sg, u a9, u b9, .pointer p9]) (by simp [results, Tryz.results29, go_sem, z0, z1, z2, z3]) rfl ?_
        exact HFin.out
      · have hT := HOK.out rfl
        have HT := Lib.hid hT
        clear hT
        go_wp2_with fail
        refine bodyPost_ret (v := lo a b c) (by simp [results, Tryz.results29, go_sem, z0, z1, z2, z3, q2]) rfl ?_
        exact ⟨_, rfl, HT.out _, (store4 HW0.out HA.out (by omega) _ _ _ _).trans ((below1 _ _).mono (store4 HW0.out HA.out (by omega) _ _ _ _).size)⟩
    · clear h1 h2 z1 z2 hk hG
      generalize neg? r = neg1 at *
      generalize neg? s = neg2 at *
      generalize r.num.natAbs = n1 at *
      generalize r * s = t at *
      clear d1 i1 j1
      go_enter Tryz.func29, Tryz.ntmps29
      go_wp2_with fail
      obtain ⟨W0, hW0, hb0, ⟨f0, f1, f2, f3⟩, ⟨g0, g1, g2, g3⟩, hz⟩ := box3 w (.bool neg1) (u n1) (u l1) (.pointer none) (.bool neg2) (u 0) (u 0) (.pointer (some ⟨b2, 0, none⟩)); rw [← hW0]; clear hW0; have HZ := Lib.hid hz; have HW0 := Lib.hid hb0; have hb0 := Below.refl W0.heap.size W0; clear hz
      refine (HW.out _ (chain1 HW0.out hb0)).mono ?_
      rintro e W9 ⟨v, rfl, hN, hb⟩
      have hb3 := chain1 hb0 hb
      have hN' := hN
      obtain ⟨sg, a9, b9, p9, rfl⟩ := hN'.form
      have hz := HZ.out.below hb3 (Nat.le_refl _)
      have hfin := QNew.stored (a0 := .bool sg) (a1 := u a9) (a2 := u b9) (a3 := .pointer p9) hz hN (chain1 HW0.out hb3) (by omega)
      have HFin := Lib.hid hfin
      (have hz := HZ.out.below hb3 (Nat.le_refl _); have zf := hz.frozen; obtain ⟨z0, z1, z2, z3⟩ := hz.cells; have zf0 := zf 0; have zf1 := zf 1; have zf2 := zf 2; have zf3 := zf 3; clear zf hz)
      clear hfin hN hN' hb hb3
      go_wp2_with fail
      refine bodyPost_ret (v := .agg #[.bool sg, u a9, u b9, .pointer p9]) (by simp [results, Tryz.results29, go_sem, z0, z1, z2, z3]) rfl ?_
      exact HFin.out
  · obtain ⟨neg2, a2, b2, p2, rfl⟩ := h2.form
    clear h1 h2 z1 z2 hk hG
    generalize neg? r = neg1 at *
    generalize r * s = t at *
    go_enter Tryz.func29, Tryz.ntmps29
    go_wp2_with fail
    obtain ⟨W0, hW0, hb0, ⟨f0, f1, f2, f3⟩, ⟨g0, g1, g2, g3⟩, hz⟩ := box3 w (.bool neg1) (u 0) (u 0) (.pointer (some ⟨b1, 0, none⟩)) (.bool neg2) (u a2) (u b2) (.pointer p2); rw [← hW0]; clear hW0; have HZ := Lib.hid hz; have HW0 := Lib.hid hb0; have hb0 := Below.refl W0.heap.size W0; clear hz
    refine (HW.out _ (chain1 HW0.out hb0)).mono ?_
    rintro e W9 ⟨v, rfl, hN, hb⟩
    have hb3 := chain1 hb0 hb
    have hN' := hN
    obtain ⟨sg, a9, b9, p9, rfl⟩ := hN'.form
    have hz := HZ.out.below hb3 (Nat.le_refl _)
    have hfin := QNew.stored (a0 := .bool sg) (a1 := u a9) (a2 := u b9) (a3 := .pointer p9) hz hN (chain1 HW0.out hb3) (by omega)
    have HFin := Lib.hid hfin
    (have hz := HZ.out.below hb3 (Nat.le_refl _); have zf := hz.frozen; obtain ⟨z0, z1, z2, z3⟩ := hz.cells; have zf0 := zf 0; have zf1 := zf 1; have zf2 := zf 2; have zf3 := zf 3; clear zf hz)
    clear hfin hN hN' hb hb3
    go_wp2_with fail
    refine bodyPost_ret (v := .agg #[.bool sg, u a9, u b9, .pointer p9]) (by simp [results, Tryz.results29, go_sem, z0, z1, z2, z3]) rfl ?_
    exact HFin.out
open Go Go.RowKit Go.Proofs Lim
theorem side_any (sg : Bool) (a b : Nat) (p : Option Addr) (w : World) :
    Calls Tryz.prog 88 #[.agg #[.bool sg, u a, u b, .pointer p]] w (Val w (.int .i64 (if sg then -1 else 1))) := by
  cases sg
  · go_enter Tryz.func88, Tryz.ntmps88
    go_wp2_with fail
    go_ret
    exact ⟨rfl, below1 w _⟩
  · go_enter Tryz.func88, Tryz.ntmps88
    go_wp2_with fail
    go_ret
    exact ⟨rfl, below1 w _⟩
def sign (r : Rat) : Int := if r.num = 0 then 0 else if r.num < 0 then -1 else 1
theorem sign_q (v : Value) (r : Rat) (w : World) (h : IsQ w v r) :
    Calls Tryz.prog 19 #[v] w (Val w (.int .i64 (sign r))) := by
  have hsg : (if decide (r.num < 0) then (-1 : Int) else 1) = if r.num < 0 then -1 else 1 := by
    by_cases h : r.num < 0 <;> simp [h]
  cases h with
  | low l hv hd hn hdB =>
    subst hv
    by_cases h0 : r.num.natAbs = 0
    · have hs : sign r = 0 := by unfold sign; rw [if_pos (by omega)]
      rw [hs, h0]
      generalize decide (r.num < 0) = sg at *
      go_enter Tryz.func19, Tryz.ntmps19
      go_wp2_with fail
      go_ret
      exact ⟨rfl, below1 w _⟩
    · have hs : sign r = if decide (r.num < 0) then -1 else 1 := by unfold sign; rw [if_neg (by omega), hsg]
      rw [hs]
      have HS := Lib.hid (fun W => side_any (decide (r.num < 0)) r.num.natAbs l none W)
      clear hs hsg hn hd hdB
      have h1 : (((r.num.natAbs : Nat) : Int) == 0) = false := by rw [beq_eq_false_iff_ne]; omega
      obtain ⟨sv, hsv⟩ : ∃ sv : Int, sv = if decide (r.num < 0) then -1 else 1 := ⟨_, rfl⟩
      rw [← hsv] at HS ⊢
      clear hsv
      generalize decide (r.num < 0) = sg at *
      generalize r.num.natAbs = n at *
      clear h0
      go_enter Tryz.func19, Tryz.ntmps19
      go_wp2_with fail
      refine (HS.out _).mono ?_
      rintro e W1 ⟨rfl, hb⟩
      have HB := Lib.hid (chain1 (below1 w _) hb)
      clear hb
      go_wp2_with fail
      go_ret
      exact ⟨rfl, HB.out⟩
  | wide b x y hv hx hy h1 h2 hB h0 hd =>
    subst hv
    have hs : sign r = if decide (r.num < 0) then -1 else 1 := by unfold sign; rw [if_neg (by omega), hsg]
    rw [hs]
    have HS := Lib.hid (fun W => side_any (decide (r.num < 0)) 0 0 (some ⟨b, 0, none⟩) W)
    clear hs hsg hx hy h1 h2 hB h0 hd
    obtain ⟨sv, hsv⟩ : ∃ sv : Int, sv = if decide (r.num < 0) then -1 else 1 := ⟨_, rfl⟩
    rw [← hsv] at HS ⊢
    clear hsv
    generalize decide (r.num < 0) = sg at *
    go_enter Tryz.func19, Tryz.ntmps19
    go_wp2_with fail
    refine (HS.out _).mono ?_
    rintro e W1 ⟨rfl, hb⟩
    have HB := Lib.hid (chain1 (below1 w _) hb)
    clear hb
    go_wp2_with fail
    go_ret
    exact ⟨rfl, HB.out⟩
theorem Num.resign {w : World} {s1 s2 s3 : Bool} {a b : Nat} {p : Option Addr} {n d : Nat} (h : Num w (.agg #[.bool s1, u a, u b, .pointer p]) s2 n d) : Num w (.agg #[.bool s3, u a, u b, .pointer p]) s3 n d := by
  cases h with
  | low l hv hd hn hdB =>
    simp at hv
    obtain ⟨_, e1, e2, rfl⟩ := hv
    have e1 : a = n := by omega
    have e2 : b = l := by omega
    subst e1 e2
    exact .low _ rfl hd hn hdB
  | wide b' x y hv hx hy h1 h2 hB h0 hd =>
    simp at hv
    obtain ⟨_, e1, e2, rfl⟩ := hv
    have e1 : a = 0 := by omega
    have e2 : b = 0 := by omega
    subst e1 e2
    exact .wide b' x y rfl hx hy h1 h2 hB h0 hd
theorem abs_q (v : Value) (r : Rat) (w : World) (h : IsQ w v r) :
    Calls Tryz.prog 39 #[v] w (QNew w (if r.num < 0 then -r else r)) := by
  have hq : ∀ W neg a b p, v = .agg #[.bool neg, u a, u b, .pointer p] → Below w.heap.size w W → IsQ W (.agg #[.bool false, u a, u b, .pointer p]) (if r.num < 0 then -r else r) := by
    intro W neg a b p hv hW
    have h' := h.below hW (Nat.le_refl _)
    have e1 : (if r.num < 0 then -r else r).num.natAbs = r.num.natAbs := by split <;> simp
    have e2 : (if r.num < 0 then -r else r).den = r.den := by split <;> simp
    have e3 : decide ((if r.num < 0 then -r else r).num < 0) = false := by
      by_cases hr : r.num < 0
      · first | (simp [hr]; done) | (simp [hr]; omega)
      · first | (simp [hr]; done) | (simp [hr]; omega)
    unfold IsQ
    rw [e1, e2, e3]
    subst hv
    exact Num.resign h'
  have HQ := Lib.hid hq
  obtain ⟨neg, a, b, p, rfl⟩ := h.form
  clear h hq
  generalize (if r.num < 0 then -r else r) = t at *
  go_enter Tryz.func39, Tryz.ntmps39
  go_wp2_with fail
  refine bodyPost_ret (v := .agg #[.bool false, u a, u b, .pointer p]) (by simp [results, Tryz.results39, go_sem]) rfl ?_
  have hb := chain1 (below1 w (.cells #[.bool false, u a, u b, .pointer p] 26)) (below1 _ (.cells #[.bool false, u a, u b, .pointer p] 26))
  exact ⟨_, rfl, HQ.out _ _ _ _ _ rfl hb, hb⟩
theorem box2w (w : World) (a0 a1 a2 a3 : Value) : ∃ W, W = (w.alloc (.cells #[a0, a1, a2, a3] 26)).alloc (.cells #[.bool false, .int .u64 0, .int .u64 0, .pointer none] 26) ∧ Below w.heap.size w W ∧
    Box W w.heap.size a0 a1 a2 a3 ∧ Box W (w.heap.size + 1) (.bool false) (.int .u64 0) (.int .u64 0) (.pointer none) := by
  refine ⟨_, rfl, chain1 (below1 w _) (below1 _ _), ?_, ?_⟩
  · have h1 : Box (w.alloc (.cells #[a0, a1, a2, a3] 26)) w.heap.size a0 a1 a2 a3 := heap_alloc_new w _
    exact h1.below (below1 _ _) (Nat.le_refl _)
  · have hs : (w.alloc (.cells #[a0, a1, a2, a3] 26)).heap.size = w.heap.size + 1 := by
      show (w.heap.push _).size = _
      simp
    rw [← hs]
    exact heap_alloc_new _ _
theorem neg_q (v : Value) (r : Rat) (w : World) (h : IsQ w v r) :
    Calls Tryz.prog 37 #[v] w (QNew w (-r)) := by
  have hq : ∀ W sg neg a b p, v = .agg #[.bool neg, u a, u b, .pointer p] → sg = decide (0 < sign r) → Below w.heap.size w W → IsQ W (.agg #[.bool sg, u a, u b, .pointer p]) (-r) := by
    intro W sg neg a b p hv hs hW
    have h' := h.below hW (Nat.le_refl _)
    have e3 : decide ((-r).num < 0) = sg := by
      rw [hs]
      unfold sign
      rw [Rat.neg_num, Bool.eq_iff_iff]
      simp only [decide_eq_true_eq]
      split
      · omega
      · split <;> omega
    unfold IsQ
    rw [e3, Rat.neg_num, Int.natAbs_neg, Rat.neg_den]
    subst hv
    exact Num.resign h'
  have HQ := Lib.hid hq
  have HS := Lib.hid (fun W (hW : Below w.heap.size w W) => sign_q v r W (h.below hW (Nat.le_refl _)))
  obtain ⟨neg, a, b, p, rfl⟩ := h.form
  clear h hq
  generalize sign r = sv at *
  generalize -r = t at *
  go_enter Tryz.func37, Tryz.ntmps37
  go_wp2_with fail
  obtain ⟨W0, hW0, hb0, hx, hz⟩ := box2w w (.bool neg) (u a) (u b) (.pointer p)
  rw [← hW0]
  clear hW0
  refine (HS.out _ hb0).mono ?_
  rintro e W1 ⟨rfl, hb⟩
  have hx1 := hx.below hb (Nat.le_refl _)
  have hz1 := hz.below hb (Nat.le_refl _)
  have HB := Lib.hid (chain1 hb0 hb)
  have xf := hx1.frozen
  obtain ⟨x0, x1, x2, x3⟩ := hx1.cells
  have xf0 := xf 0
  have zf := hz1.frozen
  obtain ⟨z0, z1, z2, z3⟩ := hz1.cells
  have zf0 := zf 0
  have zf1 := zf 1
  have zf2 := zf 2
  have zf3 := zf 3
  clear xf zf hx hz hx1 hz1 hb hb0
  go_wp2_with fail
  have hb5 : Below w.heap.size w (((((W1.setCell ⟨w.heap.size, 0, none⟩ (.bool (decide (0 < sv)))).setCell ⟨w.heap.size + 1, 0, none⟩ (.bool (decide (0 < sv)))).setCell ⟨w.heap.size + 1, 1, none⟩ (u a)).setCell ⟨w.heap.size + 1, 2, none⟩ (u b)).setCell ⟨w.heap.size + 1, 3, none⟩ (.pointer p)) :=
    (HB.out.trans (((Only.refl w.heap.size W1).set 0 _).below (Nat.le_refl _))).trans ((((((Only.refl (w.heap.size + 1) _).set 0 _).set 1 _).set 2 _).set 3 _).below (by omega))
  refine bodyPost_ret (v := .agg #[.bool (decide (0 < sv)), u a, u b, .pointer p]) (by simp [results, Tryz.results37, go_sem, z0, z1, z2, z3]) rfl ?_
  exact ⟨_, rfl, HQ.out _ _ _ _ _ _ rfl rfl hb5, hb5⟩
open Go Go.RowKit Go.Proofs Lim
theorem Siz.neg {r : Rat} {k : Nat} (h : Siz r k) : Siz (-r) k := by
  unfold Siz at *
  rw [Rat.neg_num, Int.natAbs_neg, Rat.neg_den]
  exact h
theorem minus_q (v1 v2 : Value) (r s : Rat) (k : Nat) (w : World) (h1 : IsQ w v1 r) (h2 : IsQ w v2 s) (z1 : Siz r k) (z2 : Siz s k) (hk : ((k + k + 1 : Nat) : Int) ≤ 1073741824) (hG : Gr w) :
    Calls Tryz.prog 27 #[v1, v2] w (QNew w (r - s)) := by
  have HN := Lib.hid (fun W (hW : Below w.heap.size w W) => neg_q v2 s W (h2.below hW (Nat.le_refl _)))
  have HP := Lib.hid (fun v W (hv : IsQ W v (-s)) (hW : Below w.heap.size w W) => plus_q v1 v r (-s) k W (h1.below hW (Nat.le_refl _)) hv z1 z2.neg hk (hG.below hW hG.size))
  rw [← Rat.sub_eq_add_neg] at HP
  obtain ⟨neg1, a1, b1, p1, rfl⟩ := h1.form
  obtain ⟨neg2, a2, b2, p2, rfl⟩ := h2.form
  clear h1 h2 z1 z2 hk hG
  generalize r - s = t at *
  generalize -s = s' at *
  go_enter Tryz.func27, Tryz.ntmps27
  go_wp2_with fail
  obtain ⟨W0, hW0, hb0, ⟨f0, f1, f2, f3⟩, ⟨g0, g1, g2, g3⟩, hz⟩ := box3 w (.bool neg1) (u a1) (u b1) (.pointer p1) (.bool neg2) (u a2) (u b2) (.pointer p2); rw [← hW0]; clear hW0; have HZ := Lib.hid hz; have HW0 := Lib.hid hb0; have hb0 := Below.refl W0.heap.size W0; clear hz
  have n1 : ¬ w.heap.size = w.heap.size + 1 + 1 := by omega
  have n2 : ¬ w.heap.size + 1 + 1 = w.heap.size := by omega
  have n3 : w.heap.size ≠ w.heap.size + 1 + 1 := by omega
  go_region_held3 (fun w' => (w'.cell? ⟨w.heap.size, 0, none⟩ = some (.bool neg1) ∧ w'.cell? ⟨w.heap.size, 1, none⟩ = some (u a1) ∧ w'.cell? ⟨w.heap.size, 2, none⟩ = some (u b1) ∧ w'.cell? ⟨w.heap.size, 3, none⟩ = some (.pointer p1)) ∧ (w'.cell? ⟨w.heap.size + 1, 0, none⟩ = some (.bool neg2) ∧ w'.cell? ⟨w.heap.size + 1, 1, none⟩ = some (u a2) ∧ w'.cell? ⟨w.heap.size + 1, 2, none⟩ = some (u b2) ∧ w'.cell? ⟨w.heap.size + 1, 3, none⟩ = some (.pointer p2))) (go_keep) (first | ((with_reducible refine (HN.out _ ((chain1 HW0.out hb0).drew)).mono ?_); rintro e W1 ⟨vn, rfl, hvn, hb⟩; (obtain ⟨_, _, _, _⟩ := boxq (b := w.heap.size) hb (by assumption) (by assumption) (by assumption) (by assumption); obtain ⟨_, _, _, _⟩ := boxq (b := w.heap.size + 1) hb (by assumption) (by assumption) (by assumption) (by assumption)); obtain ⟨_, _, _, _, rfl⟩ := hvn.form) | ((with_reducible refine (HP.out _ _ hvn (chain1 HW0.out (chain hb0 hb))).mono ?_); rintro e W9 ⟨v, rfl, hv, hb'⟩; (obtain ⟨_, _, _, _⟩ := boxq (b := w.heap.size) hb' (by assumption) (by assumption) (by assumption) (by assumption); obtain ⟨_, _, _, _⟩ := boxq (b := w.heap.size + 1) hb' (by assumption) (by assumption) (by assumption) (by assumption)); have hv' := hv; obtain ⟨sg9, a9, b9, p9, rfl⟩ := hv'.form; have hb3 := chain1 (chain hb0 hb) hb'; (have hz := HZ.out.below hb3 (Nat.le_refl _); have zf := hz.frozen; obtain ⟨z0, z1, z2, z3⟩ := hz.cells; have zf0 := zf 0; have zf1 := zf 1; have zf2 := zf 2; have zf3 := zf 3; clear zf hz)))
  have hz := HZ.out.below hb3 (Nat.le_refl _)
  have hfin := QNew.stored (a0 := .bool sg9) (a1 := u a9) (a2 := u b9) (a3 := .pointer p9) hz hv (chain1 HW0.out hb3) (by omega)
  have HFin := Lib.hid hfin
  clear hfin hv hv' hvn hb hb' hb0 hb3 hz f0 f1 f2 f3 g0 g1 g2 g3
  go_wp2_with fail
  refine bodyPost_ret (v := .agg #[.bool sg9, u a9, u b9, .pointer p9]) (by simp [results, Tryz.results27, go_sem, z0, z1, z2, z3]) rfl ?_
  exact HFin.out
open Go Go.RowKit Go.Proofs Lim
def cmpQ (r s : Rat) : Int := if r < s then -1 else if s < r then 1 else 0
theorem cmpQ_int (r s : Rat) : cmpQ r s = if r.num * s.den < s.num * r.den then -1 else if s.num * r.den < r.num * s.den then 1 else 0 := by
  unfold cmpQ
  simp only [Rat.lt_iff]
theorem apart_int {m n : Int} {a b : Nat} (ha : 0 < a) (hb : 0 < b) (h : decide (m < 0) ≠ decide (n < 0)) :
    (if m * b < n * a then (-1 : Int) else if n * a < m * b then 1 else 0) = if decide (m < 0) then -1 else 1 := by
  have ha' : (0 : Int) < a := by omega
  have hb' : (0 : Int) < b := by omega
  by_cases hm : m < 0
  · have hn : 0 ≤ n := by
      by_cases hn : n < 0
      · exact absurd (by simp [hm, hn]) h
      · omega
    have h1 : m * b < 0 := Int.mul_neg_of_neg_of_pos hm hb'
    have h2 : 0 ≤ n * a := Int.mul_nonneg hn (Int.le_of_lt ha')
    rw [if_pos (by omega)]
    simp [hm]
  · have hn : n < 0 := by
      by_cases hn : n < 0
      · exact hn
      · exact absurd (by simp [hm, hn]) h
    have h1 : n * a < 0 := Int.mul_neg_of_neg_of_pos hn ha'
    have h2 : 0 ≤ m * b := Int.mul_nonneg (by omega) (Int.le_of_lt hb')
    rw [if_neg (by omega), if_pos (by omega)]
    simp [hm]
theorem same_int {m n : Int} {a b : Nat} (h : decide (m < 0) = decide (n < 0)) :
    (if decide (m < 0) then (-1 : Int) else 1) * cmpNat (m.natAbs * b) (n.natAbs * a) = if m * b < n * a then (-1 : Int) else if n * a < m * b then 1 else 0 := by
  unfold cmpNat
  by_cases hm : m < 0
  · have hn : n < 0 := by
      by_cases hn : n < 0
      · exact hn
      · simp [hm, hn] at h
    have e1 : m * b = -((m.natAbs * b : Nat) : Int) := by
      rw [Int.natCast_mul, ← Int.neg_mul]; congr 1; omega
    have e2 : n * a = -((n.natAbs * a : Nat) : Int) := by
      rw [Int.natCast_mul, ← Int.neg_mul]; congr 1; omega
    rw [e1, e2]
    generalize m.natAbs * b = x
    generalize n.natAbs * a = y
    simp only [hm, decide_true, if_true]
    rcases Nat.lt_trichotomy x y with g | g | g
    · rw [if_pos g, if_neg (by omega), if_pos (by omega)]; rfl
    · rw [if_neg (by omega), if_neg (by omega), if_neg (by omega), if_neg (by omega)]; rfl
    · rw [if_neg (by omega), if_pos g, if_pos (by omega)]; rfl
  · have hn : ¬ n < 0 := by
      intro hn
      simp [hm, hn] at h
    have e1 : m * b = ((m.natAbs * b : Nat) : Int) := by
      rw [Int.natCast_mul]; congr 1; omega
    have e2 : n * a = ((n.natAbs * a : Nat) : Int) := by
      rw [Int.natCast_mul]; congr 1; omega
    rw [e1, e2]
    generalize m.natAbs * b = x
    generalize n.natAbs * a = y
    simp only [hm, decide_false, Bool.false_eq_true, if_false]
    rcases Nat.lt_trichotomy x y with g | g | g
    · rw [if_pos g, if_pos (by omega)]; rfl
    · rw [if_neg (by omega), if_neg (by omega), if_neg (by omega), if_neg (by omega)]; rfl
    · rw [if_neg (by omega), if_pos g, if_neg (by omega), if_pos (by omega)]; rfl
theorem cmpQ_apart {r s : Rat} (h : neg? r ≠ neg? s) : cmpQ r s = if neg? r then -1 else 1 := by
  rw [cmpQ_int]
  exact apart_int r.den_pos s.den_pos h
theorem cmpQ_same {r s : Rat} (h : neg? r = neg? s) : (if neg? r then (-1 : Int) else 1) * cmpNat (r.num.natAbs * s.den) (s.num.natAbs * r.den) = cmpQ r s := by
  rw [cmpQ_int]
  exact same_int h
theorem cmpQ_wrap (r s : Rat) : IntKind.i64.wrap (cmpQ r s) = cmpQ r s := by
  unfold cmpQ
  split
  · rfl
  · split <;> rfl
theorem cmp_q (v1 v2 : Value) (r s : Rat) (k : Nat) (w : World) (h1 : IsQ w v1 r) (h2 : IsQ w v2 s) (z1 : Siz r k) (z2 : Siz s k) (hk : (k : Int) ≤ 1073741824) :
    Calls Tryz.prog 31 #[v1, v2] w (Val w (.int .i64 (cmpQ r s))) := by
  have HW := Lib.hid (fun W (hW : Below w.heap.size w W) => compareWide_any v1 v2 _ _ _ _ _ _ k W (h1.below hW (Nat.le_refl _)) (h2.below hW (Nat.le_refl _)) z1.1 z1.2 z2.1 z2.2 hk)
  by_cases hne : neg? r = neg? s
  · have hres := cmpQ_same hne
    have hwr := cmpQ_wrap r s
    rw [← hres] at hwr
    have hbn : (neg? r == neg? s) = true := by rw [hne]; simp
    obtain ⟨sv, hsv⟩ : ∃ sv : Int, sv = if neg? r then -1 else 1 := ⟨_, rfl⟩
    have hside := fun a b p W => side_any (neg? r) a b p W
    rw [← hsv] at hside hres hwr
    clear hsv
    rcases h1.forms with ⟨l1, rfl, d1, i1, j1⟩ | ⟨b1, rfl⟩
    · have HS := Lib.hid (hside r.num.natAbs l1 none)
      rcases h2.forms with ⟨l2, rfl, d2, i2, j2⟩ | ⟨b2, rfl⟩
      · have HC := Lib.hid (fun W => compareSmall_any (neg? r) (neg? s) r.num.natAbs l1 s.num.natAbs l2 i1 (d1 ▸ j1) i2 (d2 ▸ j2) W)
        rw [← d1, ← d2] at HC
        generalize cmpNat (r.num.natAbs * s.den) (s.num.natAbs * r.den) = cv at *
        clear h1 h2 z1 z2 hk hne hside i1 i2 j1 j2 d1 d2 HW
        generalize cmpQ r s = t at *
        generalize neg? r = neg1 at *
        generalize neg? s = neg2 at *
        generalize r.num.natAbs = n1 at *
        generalize s.num.natAbs = n2 at *
        subst hres
        generalize hpr : sv * cv = pr at *
        go_enter Tryz.func31, Tryz.ntmps31
        go_wp2_with fail
        obtain ⟨W0, hW0, hb0, ⟨f0, f1, f2, f3⟩, ⟨g0, g1, g2, g3⟩⟩ := box2 w (.bool neg1) (u n1) (u l1) (.pointer none) (.bool neg2) (u n2) (u l2) (.pointer none); rw [← hW0]; clear hW0
        go_region_held3 (fun w' => (w'.cell? ⟨w.heap.size, 0, none⟩ = some (.bool neg1) ∧ w'.cell? ⟨w.heap.size, 1, none⟩ = some (u n1) ∧ w'.cell? ⟨w.heap.size, 2, none⟩ = some (u l1) ∧ w'.cell? ⟨w.heap.size, 3, none⟩ = some (.pointer none)) ∧ (w'.cell? ⟨w.heap.size + 1, 0, none⟩ = some (.bool neg2) ∧ w'.cell? ⟨w.heap.size + 1, 1, none⟩ = some (u n2) ∧ w'.cell? ⟨w.heap.size + 1, 2, none⟩ = some (u l2) ∧ w'.cell? ⟨w.heap.size + 1, 3, none⟩ = some (.pointer none))) (go_keep) (first | ((with_reducible refine (HS.out _).mono ?_); rintro e W1 ⟨rfl, hb⟩; (obtain ⟨_, _, _, _⟩ := boxq (b := w.heap.size) hb (by assumption) (by assumption) (by assumption) (by assumption); obtain ⟨_, _, _, _⟩ := boxq (b := w.heap.size + 1) hb (by assumption) (by assumption) (by assumption) (by assumption))) | ((with_reducible refine (HC.out _).mono ?_); rintro e W2 ⟨rfl, hb'⟩; (obtain ⟨_, _, _, _⟩ := boxq (b := w.heap.size) hb' (by assumption) (by assumption) (by assumption) (by assumption); obtain ⟨_, _, _, _⟩ := boxq (b := w.heap.size + 1) hb' (by assumption) (by assumption) (by assumption) (by assumption))))
        have HB := Lib.hid (chain1 (chain hb0 hb) hb')
        clear hb0 hb hb' f0 f1 f2 f3 g0 g1 g2 g3
        go_wp2_with fail
        go_ret
        exact ⟨rfl, HB.out⟩
      · generalize cmpNat (r.num.natAbs * s.den) (s.num.natAbs * r.den) = cv at *
        clear h1 h2 z1 z2 hk hne hside i1 j1 d1
        generalize cmpQ r s = t at *
        generalize neg? r = neg1 at *
        generalize neg? s = neg2 at *
        generalize r.num.natAbs = n1 at *
        subst hres
        generalize hpr : sv * cv = pr at *
        go_enter Tryz.func31, Tryz.ntmps31
        go_wp2_with fail
        obtain ⟨W0, hW0, hb0, ⟨f0, f1, f2, f3⟩, ⟨g0, g1, g2, g3⟩⟩ := box2 w (.bool neg1) (u n1) (u l1) (.pointer none) (.bool neg2) (u 0) (u 0) (.pointer (some ⟨b2, 0, none⟩)); rw [← hW0]; clear hW0
        go_region_held3 (fun w' => (w'.cell? ⟨w.heap.size, 0, none⟩ = some (.bool neg1) ∧ w'.cell? ⟨w.heap.size, 1, none⟩ = some (u n1) ∧ w'.cell? ⟨w.heap.size, 2, none⟩ = some (u l1) ∧ w'.cell? ⟨w.heap.size, 3, none⟩ = some (.pointer none)) ∧ (w'.cell? ⟨w.heap.size + 1, 0, none⟩ = some (.bool neg2) ∧ w'.cell? ⟨w.heap.size + 1, 1, none⟩ = some (u 0) ∧ w'.cell? ⟨w.heap.size + 1, 2, none⟩ = some (u 0) ∧ w'.cell? ⟨w.heap.size + 1, 3, none⟩ = some (.pointer (some ⟨b2, 0, none⟩)))) (go_keep) (first | ((with_reducible refine (HS.out _).mono ?_); rintro e W1 ⟨rfl, hb⟩; (obtain ⟨_, _, _, _⟩ := boxq (b := w.heap.size) hb (by assumption) (by assumption) (by assumption) (by assumption); obtain ⟨_, _, _, _⟩ := boxq (b := w.heap.size + 1) hb (by assumption) (by assumption) (by assumption) (by assumption))) | ((with_reducible refine (HW.out _ (chain hb0 hb)).mono ?_); rintro e W2 ⟨rfl, hb'⟩; (obtain ⟨_, _, _, _⟩ := boxq (b := w.heap.size) hb' (by assumption) (by assumption) (by assumption) (by assumption); obtain ⟨_, _, _, _⟩ := boxq (b := w.heap.size + 1) hb' (by assumption) (by assumption) (by assumption) (by assumption))))
        have HB := Lib.hid (chain1 (chain hb0 hb) hb')
        clear hb0 hb hb' f0 f1 f2 f3 g0 g1 g2 g3
        go_wp2_with fail
        go_ret
        exact ⟨rfl, HB.out⟩
    · have HS := Lib.hid (hside 0 0 (some ⟨b1, 0, none⟩))
      obtain ⟨a2, b2, p2, rfl, _⟩ := Num.form h2
      clear h1 h2 z1 z2 hk hbn
      obtain ⟨neg2, hn2⟩ : ∃ neg2, neg2 = decide (s.num < 0) := ⟨_, rfl⟩
      rw [← hn2] at HW ⊢
      have hne2 : neg? r = neg2 := hne.trans hn2.symm
      have hbn : (neg? r == neg2) = true := by rw [hne2]; simp
      clear hne hne2
      generalize cmpNat (r.num.natAbs * s.den) (s.num.natAbs * r.den) = cv at *
      clear hside hn2
      generalize cmpQ r s = t at *
      generalize neg? r = neg1 at *
      subst hres
      generalize hpr : sv * cv = pr at *
      go_enter Tryz.func31, Tryz.ntmps31
      go_wp2_with fail
      obtain ⟨W0, hW0, hb0, ⟨f0, f1, f2, f3⟩, ⟨g0, g1, g2, g3⟩⟩ := box2 w (.bool neg1) (u 0) (u 0) (.pointer (some ⟨b1, 0, none⟩)) (.bool neg2) (u a2) (u b2) (.pointer p2); rw [← hW0]; clear hW0
      go_region_held3 (fun w' => (w'.cell? ⟨w.heap.size, 0, none⟩ = some (.bool neg1) ∧ w'.cell? ⟨w.heap.size, 1, none⟩ = some (u 0) ∧ w'.cell? ⟨w.heap.size, 2, none⟩ = some (u 0) ∧ w'.cell? ⟨w.heap.size, 3, none⟩ = some (.pointer (some ⟨b1, 0, none⟩))) ∧ (w'.cell? ⟨w.heap.size + 1, 0, none⟩ = some (.bool neg2) ∧ w'.cell? ⟨w.heap.size + 1, 1, none⟩ = some (u a2) ∧ w'.cell? ⟨w.heap.size + 1, 2, none⟩ = some (u b2) ∧ w'.cell? ⟨w.heap.size + 1, 3, none⟩ = some (.pointer p2))) (go_keep) (first | ((with_reducible refine (HS.out _).mono ?_); rintro e W1 ⟨rfl, hb⟩; (obtain ⟨_, _, _, _⟩ := boxq (b := w.heap.size) hb (by assumption) (by assumption) (by assumption) (by assumption); obtain ⟨_, _, _, _⟩ := boxq (b := w.heap.size + 1) hb (by assumption) (by assumption) (by assumption) (by assumption))) | ((with_reducible refine (HW.out _ (chain hb0 hb)).mono ?_); rintro e W2 ⟨rfl, hb'⟩; (obtain ⟨_, _, _, _⟩ := boxq (b := w.heap.size) hb' (by assumption) (by assumption) (by assumption) (by assumption); obtain ⟨_, _, _, _⟩ := boxq (b := w.heap.size + 1) hb' (by assumption) (by assumption) (by assumption) (by assumption))))
      have HB := Lib.hid (chain1 (chain hb0 hb) hb')
      clear hb0 hb hb' f0 f1 f2 f3 g0 g1 g2 g3
      go_wp2_with fail
      go_ret
      exact ⟨rfl, HB.out⟩
  · have hres := cmpQ_apart hne
    obtain ⟨a1, b1, p1, rfl, _⟩ := Num.form h1
    obtain ⟨a2, b2, p2, rfl, _⟩ := Num.form h2
    have HS := Lib.hid (fun W => side_any (decide (r.num < 0)) a1 b1 p1 W)
    rw [← hres] at HS
    have hb : (decide (r.num < 0) == decide (s.num < 0)) = false := by simpa using hne
    clear h1 h2 z1 z2 hk HW hres hne
    generalize cmpQ r s = t at *
    generalize decide (r.num < 0) = neg1 at *
    generalize decide (s.num < 0) = neg2 at *
    go_enter Tryz.func31, Tryz.ntmps31
    go_wp2_with fail
    obtain ⟨W0, hW0, hb0, ⟨f0, f1, f2, f3⟩, ⟨g0, g1, g2, g3⟩⟩ := box2 w (.bool neg1) (u a1) (u b1) (.pointer p1) (.bool neg2) (u a2) (u b2) (.pointer p2); rw [← hW0]; clear hW0
    refine (HS.out _).mono ?_
    rintro e W1 ⟨rfl, hb1⟩
    have HB := Lib.hid (chain1 hb0 hb1)
    clear hb0 hb1
    go_wp2_with fail
    go_ret
    exact ⟨rfl, HB.out⟩
open Go Go.RowKit Go.Proofs Lim
theorem inv_parts {r : Rat} (h : r.num ≠ 0) : (r⁻¹).num = sgn (neg? r) r.den ∧ (r⁻¹).den = r.num.natAbs := by
  show (Rat.inv r).num = _ ∧ (Rat.inv r).den = _
  unfold Rat.inv sgn
  by_cases h1 : r.num < 0
  · simp [h1]
  · have h2 : 0 < r.num := by omega
    simp [h1, h2]
theorem recip_q (v : Value) (r : Rat) (w : World) (h : IsQ w v r) (h0 : r.num ≠ 0) :
    Calls Tryz.prog 80 #[v] w (QNew w r⁻¹) := by
  obtain ⟨in1, in2⟩ := inv_parts h0
  cases h with
  | low l hv hd hn hdB =>
    subst hv
    have hq : ∀ W, IsQ W (lo (neg? r && !decide (r.den = 0)) r.den (difLo r.num.natAbs 1)) r⁻¹ := by
      intro W
      unfold IsQ
      rw [in1, in2, sgn_abs, sgn_neg]
      exact Num.low _ rfl (difLo_one hn (by omega)).symm hdB hn
    have HQ := Lib.hid hq
    have HS := Lib.hid (fun W => small_any (neg? r) r.den r.num.natAbs hn W)
    have HBo := Lib.hid (fun W => bottom_any (neg? r) r.num.natAbs l none (hd ▸ hdB) W)
    rw [← hd] at HBo
    clear hq in1 in2 hn hdB hd h0
    show Calls Tryz.prog 80 #[lo (neg? r) r.num.natAbs l] w (QNew w r⁻¹)
    generalize r⁻¹ = t at *
    generalize neg? r = sg at *
    generalize r.num.natAbs = n at *
    generalize r.den = d at *
    generalize (sg && !decide (d = 0)) = sg2 at *
    generalize difLo n 1 = l2 at *
    go_enter Tryz.func80, Tryz.ntmps80
    go_wp2_with fail
    obtain ⟨W0, hW0, hb0, hx0, hz⟩ := box2w w (.bool sg) (u n) (u l) (.pointer none); rw [← hW0]; clear hW0; obtain ⟨f0, f1, f2, f3⟩ := hx0.cells; have HZ := Lib.hid hz; have HW0 := Lib.hid hb0; have hb0 := Below.refl W0.heap.size W0; clear hz hx0; have n1 : ¬ w.heap.size = w.heap.size + 1 := (by omega); have n2 : ¬ w.heap.size + 1 = w.heap.size := (by omega)
    go_region_held3 (fun w' => (w'.cell? ⟨w.heap.size, 0, none⟩ = some (.bool sg) ∧ w'.cell? ⟨w.heap.size, 1, none⟩ = some (u n) ∧ w'.cell? ⟨w.heap.size, 2, none⟩ = some (u l) ∧ w'.cell? ⟨w.heap.size, 3, none⟩ = some (.pointer none))) (go_keep) (first | ((with_reducible refine (HBo.out _).mono ?_); rintro e W1 ⟨rfl, hb⟩; (obtain ⟨_, _, _, _⟩ := boxq (b := w.heap.size) hb (by assumption) (by assumption) (by assumption) (by assumption))) | ((with_reducible refine (HS.out _).mono ?_); rintro e W2 ⟨rfl, hb'⟩; (obtain ⟨_, _, _, _⟩ := boxq (b := w.heap.size) hb' (by assumption) (by assumption) (by assumption) (by assumption)); have hb3 := chain1 (chain hb0 hb) hb'; (have hz := HZ.out.below hb3 (Nat.le_refl _); have zf := hz.frozen; obtain ⟨z0, z1, z2, z3⟩ := hz.cells; have zf0 := zf 0; have zf1 := zf 1; have zf2 := zf 2; have zf3 := zf 3; clear zf hz)))
    have hz := HZ.out.below hb3 (Nat.le_refl _)
    have hfin := QNew.stored (a0 := .bool sg2) (a1 := u d) (a2 := u l2) (a3 := .pointer none) hz (HQ.out _) (chain1 HW0.out hb3) (by omega)
    have HFin := Lib.hid hfin
    clear hfin hb hb' hb0 hb3 hz f0 f1 f2 f3
    go_wp2_with fail
    refine bodyPost_ret (v := lo sg2 d l2) (by simp [results, Tryz.results80, go_sem, z0, z1, z2, z3]) rfl ?_
    exact HFin.out
  | wide b x y hv hx hy h1 h2 hB h0' hd =>
    subst hv
    have HF := Lib.hid (fun W (hW : Below w.heap.size w W) => fraction_any (neg? r) y x r.den r.num.natAbs W (h2.below hW (Nat.le_refl _)) (h1.below hW (Nat.le_refl _)) h0')
    have HR := Lib.hid (fun W W' e (h : FracPost W (neg? r) r.den r.num.natAbs e W') => h.q in1 in2)
    obtain ⟨xa, xl, xc, rfl, _⟩ := h1.form
    obtain ⟨ya, yl, yc, rfl, _⟩ := h2.form
    clear h1 h2 in1 in2 hB h0' hd h0
    show Calls Tryz.prog 80 #[wi (neg? r) ⟨b, 0, none⟩] w (QNew w r⁻¹)
    generalize r⁻¹ = t at *
    generalize neg? r = sg at *
    generalize r.num.natAbs = n at *
    generalize r.den = d at *
    go_enter Tryz.func80, Tryz.ntmps80
    go_wp2_with fail
    have p1 : ¬ b = w.heap.size + 1 := by have := World.block_lt_of_cell? w _ hx; simp at this; omega
    have p2 : ¬ w.heap.size + 1 = b := fun h => p1 h.symm
    obtain ⟨W0, hW0, hb0, hx0, hz⟩ := box2w w (.bool sg) (u 0) (u 0) (.pointer (some ⟨b, 0, none⟩)); rw [← hW0]; clear hW0; obtain ⟨f0, f1, f2, f3⟩ := hx0.cells; have HZ := Lib.hid hz; have HW0 := Lib.hid hb0; have hb0 := Below.refl W0.heap.size W0; clear hz hx0; have n1 : ¬ w.heap.size = w.heap.size + 1 := (by omega); have n2 : ¬ w.heap.size + 1 = w.heap.size := (by omega)
    have hx : W0.cell? ⟨b, 0, none⟩ = some (.slice xa xl xc) := (HW0.out.cell (p := ⟨b, 0, none⟩) (World.block_lt_of_cell? w _ hx)).trans hx
    have hy : W0.cell? ⟨b, 1, none⟩ = some (.slice ya yl yc) := (HW0.out.cell (p := ⟨b, 1, none⟩) (World.block_lt_of_cell? w _ hy)).trans hy
    go_region_held3 (fun w' => (w'.cell? ⟨w.heap.size, 0, none⟩ = some (.bool sg) ∧ w'.cell? ⟨w.heap.size, 3, none⟩ = some (.pointer (some ⟨b, 0, none⟩))) ∧ w'.cell? ⟨b, 0, none⟩ = some (.slice xa xl xc) ∧ w'.cell? ⟨b, 1, none⟩ = some (.slice ya yl yc)) (go_keep) (((with_reducible refine (HF.out _ (HW0.out.drew)).mono ?_); rintro e W1 hF; have hQ := HR.out _ _ _ hF; obtain ⟨v, rfl, hv, hb⟩ := hQ; (obtain ⟨_, _, _, _⟩ := boxq (b := w.heap.size) hb (by assumption) (by assumption) (by assumption) (by assumption)); have hb3 := chain hb0 hb; have k1 := (hb3.cell (p := ⟨b, 0, none⟩) (World.block_lt_of_cell? W0 _ hx)).trans hx; have k2 := (hb3.cell (p := ⟨b, 1, none⟩) (World.block_lt_of_cell? W0 _ hy)).trans hy; have hv' := hv; obtain ⟨sg9, a9, b9, p9, rfl⟩ := hv'.form; (have hz := HZ.out.below hb3 (Nat.le_refl _); have zf := hz.frozen; obtain ⟨z0, z1, z2, z3⟩ := hz.cells; have zf0 := zf 0; have zf1 := zf 1; have zf2 := zf 2; have zf3 := zf 3; clear zf hz)))
    have hz := HZ.out.below hb3 (Nat.le_refl _)
    have hfin := QNew.stored (a0 := .bool sg9) (a1 := u a9) (a2 := u b9) (a3 := .pointer p9) hz hv (chain1 HW0.out hb3) (by omega)
    have HFin := Lib.hid hfin
    clear hfin hb hb0 hb3 hz f0 f1 f2 f3 hv hv' hF
    go_wp2_with fail
    refine bodyPost_ret (v := .agg #[.bool sg9, u a9, u b9, .pointer p9]) (by simp [results, Tryz.results80, go_sem, z0, z1, z2, z3]) rfl ?_
    exact HFin.out
open Go Go.RowKit Go.Proofs Lim
theorem Siz.inv {r : Rat} {k : Nat} (h : Siz r k) (h0 : r.num ≠ 0) : Siz r⁻¹ k := by
  obtain ⟨e1, e2⟩ := inv_parts h0
  unfold Siz at *
  rw [e1, e2, sgn_abs]
  exact ⟨h.2, h.1⟩
theorem over_zero (v1 v2 : Value) (r s : Rat) (w : World) (h1 : IsQ w v1 r) (h2 : IsQ w v2 s) (h0 : s.num = 0) :
    Calls Tryz.prog 34 #[v1, v2] w (fun e w' => e = .returned (.tuple #[lo false 0 0, .int .i64 10]) ∧ Below w.heap.size w w') := by
  have HS := Lib.hid (fun W (hW : Below w.heap.size w W) => sign_q v2 s W (h2.below hW (Nat.le_refl _)))
  have hs : sign s = 0 := by unfold sign; rw [if_pos h0]
  rw [hs] at HS
  obtain ⟨neg1, a1, b1, p1, rfl⟩ := h1.form
  obtain ⟨neg2, a2, b2, p2, rfl⟩ := h2.form
  clear h1 h2 hs h0
  go_enter Tryz.func34, Tryz.ntmps34
  go_wp2_with fail
  obtain ⟨W0, hW0, hb0, ⟨f0, f1, f2, f3⟩, ⟨g0, g1, g2, g3⟩, hz⟩ := box3 w (.bool neg1) (u a1) (u b1) (.pointer p1) (.bool neg2) (u a2) (u b2) (.pointer p2); rw [← hW0]; clear hW0; have HZ := Lib.hid hz; have HW0 := Lib.hid hb0; have hb0 := Below.refl W0.heap.size W0; clear hz
  refine (HS.out _ (chain1 HW0.out hb0)).mono ?_
  rintro e W1 ⟨rfl, hb⟩
  (obtain ⟨_, _, _, _⟩ := boxq (b := w.heap.size) hb (by assumption) (by assumption) (by assumption) (by assumption); obtain ⟨_, _, _, _⟩ := boxq (b := w.heap.size + 1) hb (by assumption) (by assumption) (by assumption) (by assumption))
  have HA := Lib.hid (chain1 hb0 hb)
  clear hb0 hb f0 f1 f2 f3 g0 g1 g2 g3
  (have hz := HZ.out.below HA.out (Nat.le_refl _); have zf := hz.frozen; obtain ⟨z0, z1, z2, z3⟩ := hz.cells; have zf0 := zf 0; have zf1 := zf 1; have zf2 := zf 2; have zf3 := zf 3; clear zf hz)
  go_wp2_with fail
  refine bodyPost_ret (v := .tuple #[lo false 0 0, .int .i64 10]) (by simp [results, Tryz.results34, go_sem, z0, z1, z2, z3]) rfl ?_
  exact ⟨rfl, store4 HW0.out HA.out (by omega) _ _ _ _⟩
def OverQ (w : World) (r : Rat) (e : Ending) (w' : World) : Prop := ∃ v, e = .returned (.tuple #[v, .int .i64 0]) ∧ IsQ w' v r ∧ Below w.heap.size w w'
theorem over_q (v1 v2 : Value) (r s : Rat) (k : Nat) (w : World) (h1 : IsQ w v1 r) (h2 : IsQ w v2 s) (h0 : s.num ≠ 0) (z1 : Siz r k) (z2 : Siz s k) (hk : (k : Int) ≤ 1073741824) (hG : Gr w) :
    Calls Tryz.prog 34 #[v1, v2] w (OverQ w (r / s)) := by
  have HS := Lib.hid (fun W (hW : Below w.heap.size w W) => sign_q v2 s W (h2.below hW (Nat.le_refl _)))
  have hs : ((sign s : Int) == 0) = false := by unfold sign; rw [if_neg h0]; split <;> rfl
  have HR := Lib.hid (fun W (hW : Below w.heap.size w W) => recip_q v2 s W (h2.below hW (Nat.le_refl _)) h0)
  have HT := Lib.hid (fun v W (hv : IsQ W v s⁻¹) (hW : Below w.heap.size w W) => times_q v1 v r s⁻¹ k W (h1.below hW (Nat.le_refl _)) hv z1 (z2.inv h0) hk (hG.below hW hG.size))
  rw [← Rat.div_def] at HT
  obtain ⟨neg1, a1, b1, p1, rfl⟩ := h1.form
  obtain ⟨neg2, a2, b2, p2, rfl⟩ := h2.form
  clear h1 h2 h0 z1 z2 hk hG
  generalize r / s = t at *
  generalize s⁻¹ = s' at *
  generalize sign s = sv at *
  go_enter Tryz.func34, Tryz.ntmps34
  go_wp2_with fail
  obtain ⟨W0, hW0, hb0, ⟨f0, f1, f2, f3⟩, ⟨g0, g1, g2, g3⟩, hz⟩ := box3 w (.bool neg1) (u a1) (u b1) (.pointer p1) (.bool neg2) (u a2) (u b2) (.pointer p2); rw [← hW0]; clear hW0; have HZ := Lib.hid hz; have HW0 := Lib.hid hb0; have hb0 := Below.refl W0.heap.size W0; clear hz
  refine (HS.out _ (chain1 HW0.out hb0)).mono ?_
  rintro e W1 ⟨rfl, hb⟩
  (obtain ⟨_, _, _, _⟩ := boxq (b := w.heap.size) hb (by assumption) (by assumption) (by assumption) (by assumption); obtain ⟨_, _, _, _⟩ := boxq (b := w.heap.size + 1) hb (by assumption) (by assumption) (by assumption) (by assumption))
  have HA := Lib.hid (chain1 hb0 hb)
  clear hb0 hb f0 f1 f2 f3 g0 g1 g2 g3
  have n1 : ¬ w.heap.size = w.heap.size + 1 + 1 := by omega
  have n2 : ¬ w.heap.size + 1 + 1 = w.heap.size := by omega
  go_wp2_with fail
  go_region_held3 (fun w' => (w'.cell? ⟨w.heap.size, 0, none⟩ = some (.bool neg1) ∧ w'.cell? ⟨w.heap.size, 1, none⟩ = some (u a1) ∧ w'.cell? ⟨w.heap.size, 2, none⟩ = some (u b1) ∧ w'.cell? ⟨w.heap.size, 3, none⟩ = some (.pointer p1)) ∧ (w'.cell? ⟨w.heap.size + 1, 0, none⟩ = some (.bool neg2) ∧ w'.cell? ⟨w.heap.size + 1, 1, none⟩ = some (u a2) ∧ w'.cell? ⟨w.heap.size + 1, 2, none⟩ = some (u b2) ∧ w'.cell? ⟨w.heap.size + 1, 3, none⟩ = some (.pointer p2))) (go_keep) (first | ((with_reducible refine (HR.out _ ((chain1 HW0.out HA.out).drew)).mono ?_); rintro e W2 ⟨vn, rfl, hvn, hb⟩; (obtain ⟨_, _, _, _⟩ := boxq (b := w.heap.size) hb (by assumption) (by assumption) (by assumption) (by assumption); obtain ⟨_, _, _, _⟩ := boxq (b := w.heap.size + 1) hb (by assumption) (by assumption) (by assumption) (by assumption)); obtain ⟨_, _, _, _, rfl⟩ := hvn.form) | ((with_reducible refine (HT.out _ _ hvn (chain1 HW0.out (chain HA.out hb))).mono ?_); rintro e W9 ⟨v, rfl, hv, hb'⟩; (obtain ⟨_, _, _, _⟩ := boxq (b := w.heap.size) hb' (by assumption) (by assumption) (by assumption) (by assumption); obtain ⟨_, _, _, _⟩ := boxq (b := w.heap.size + 1) hb' (by assumption) (by assumption) (by assumption) (by assumption)); have hv' := hv; obtain ⟨sg9, a9, b9, p9, rfl⟩ := hv'.form; have hb3 := chain1 (chain HA.out hb) hb'; (have hz := HZ.out.below hb3 (Nat.le_refl _); have zf := hz.frozen; obtain ⟨z0, z1, z2, z3⟩ := hz.cells; have zf0 := zf 0; have zf1 := zf 1; have zf2 := zf 2; have zf3 := zf 3; clear zf hz)))
  have hz := HZ.out.below hb3 (Nat.le_refl _)
  have hfin := QNew.stored (a0 := .bool sg9) (a1 := u a9) (a2 := u b9) (a3 := .pointer p9) hz hv (chain1 HW0.out hb3) (by omega)
  have HFin := Lib.hid hfin
  clear hfin hv hv' hvn hb hb' hb3 hz
  go_wp2_with fail
  refine bodyPost_ret (v := .tuple #[.agg #[.bool sg9, u a9, u b9, .pointer p9], .int .i64 0]) (by simp [results, Tryz.results34, go_sem, z0, z1, z2, z3]) rfl ?_
  obtain ⟨v, hv, hq, hbb⟩ := HFin.out
  injection hv with hv
  subst hv
  exact ⟨_, rfl, hq, hbb⟩
open Go Go.RowKit Go.Proofs Lim
theorem int_q (i : Int) (h1 : -9223372036854775808 ≤ i) (h2 : i ≤ 9223372036854775807) (w : World) :
    Calls Tryz.prog 15 #[.int .i64 i] w (QNew w (i : Rat)) := by
  have hB : i.natAbs < B := by unfold B; omega
  have hl : difLo 1 1 = 0 := by rfl
  have hq : ∀ W, IsQ W (lo (decide (i < 0) && !decide (i.natAbs = 0)) i.natAbs (difLo 1 1)) (i : Rat) := by
    intro W
    rw [hl]
    unfold IsQ
    rw [Rat.num_intCast, Rat.den_intCast]
    have : (decide (i < 0) && !decide (i.natAbs = 0)) = decide (i < 0) := by
      rw [Bool.eq_iff_iff]; simp; omega
    rw [this]
    exact Num.low 0 rfl rfl hB (by decide)
  have HQ := Lib.hid hq
  have HS := Lib.hid (fun W => small_any (decide (i < 0)) i.natAbs 1 (by decide) W)
  by_cases hi : i < 0
  · have hw : IntKind.u64.wrap (-(IntKind.u64.wrap i)) = (i.natAbs : Int) := by
      rw [IntKind.wrap_u64, IntKind.wrap_u64]
      unfold B at hB
      omega
    have hw2 : IntKind.u64.wrap (-i) = (i.natAbs : Int) := by
      rw [IntKind.wrap_u64]
      unfold B at hB
      omega
    simp only [hi, decide_true] at HS HQ
    clear hq hl hB
    have HHB := Lib.hid h1
    generalize (i : Rat) = t at *
    generalize (true && !decide (i.natAbs = 0)) = sg at *
    go_enter Tryz.func15, Tryz.ntmps15
    go_wp2_with fail
    obtain ⟨W0, hW0, hb0, hz, hs⟩ := boxz w; rw [← hW0]; clear hW0; have HZ := Lib.hid hz; have HW0 := Lib.hid hb0; have hb0 := Below.refl W0.heap.size W0; clear hz
    clear hs
    generalize difLo 1 1 = l2 at *
    generalize hn : i.natAbs = n at *
    refine (HS.out _).mono ?_
    rintro e W1 ⟨rfl, hb⟩
    have hb3 := chain1 hb0 hb
    have hz := HZ.out.below hb3 (Nat.le_refl _)
    have hfin := QNew.stored (a0 := .bool sg) (a1 := u n) (a2 := u l2) (a3 := .pointer none) hz (HQ.out _) (chain1 HW0.out hb3) (Nat.le_refl _)
    have HFin := Lib.hid hfin
    (have hz := HZ.out.below hb3 (Nat.le_refl _); have zf := hz.frozen; obtain ⟨z0, z1, z2, z3⟩ := hz.cells; have zf0 := zf 0; have zf1 := zf 1; have zf2 := zf 2; have zf3 := zf 3; clear zf hz)
    clear hfin hb hb0 hb3 hz hn
    go_wp2_with fail
    refine bodyPost_ret (v := lo sg n l2) (by simp [results, Tryz.results15, go_sem, z0, z1, z2, z3]) rfl ?_
    exact HFin.out
  · have hw : IntKind.u64.wrap i = (i.natAbs : Int) := by
      rw [IntKind.wrap_u64]
      unfold B at hB
      omega
    simp only [hi, decide_false] at HS HQ
    clear hq hl hB
    have HHB := Lib.hid h1
    generalize (i : Rat) = t at *
    generalize (false && !decide (i.natAbs = 0)) = sg at *
    go_enter Tryz.func15, Tryz.ntmps15
    go_wp2_with fail
    obtain ⟨W0, hW0, hb0, hz, hs⟩ := boxz w; rw [← hW0]; clear hW0; have HZ := Lib.hid hz; have HW0 := Lib.hid hb0; have hb0 := Below.refl W0.heap.size W0; clear hz
    clear hs
    generalize difLo 1 1 = l2 at *
    generalize hn : i.natAbs = n at *
    refine (HS.out _).mono ?_
    rintro e W1 ⟨rfl, hb⟩
    have hb3 := chain1 hb0 hb
    have hz := HZ.out.below hb3 (Nat.le_refl _)
    have hfin := QNew.stored (a0 := .bool sg) (a1 := u n) (a2 := u l2) (a3 := .pointer none) hz (HQ.out _) (chain1 HW0.out hb3) (Nat.le_refl _)
    have HFin := Lib.hid hfin
    (have hz := HZ.out.below hb3 (Nat.le_refl _); have zf := hz.frozen; obtain ⟨z0, z1, z2, z3⟩ := hz.cells; have zf0 := zf 0; have zf1 := zf 1; have zf2 := zf 2; have zf3 := zf 3; clear zf hz)
    clear hfin hb hb0 hb3 hz hn
    go_wp2_with fail
    refine bodyPost_ret (v := lo sg n l2) (by simp [results, Tryz.results15, go_sem, z0, z1, z2, z3]) rfl ?_
    exact HFin.out
open Go Go.RowKit Go.Proofs Lim
theorem siz_int (i : Int) (h1 : -9223372036854775808 ≤ i) (h2 : i ≤ 9223372036854775807) : Siz (i : Rat) 1 := by
  unfold Siz
  rw [Rat.num_intCast, Rat.den_intCast, Nat.pow_one]
  exact ⟨by unfold B; omega, by decide⟩
def OfPost (w : World) (i j : Int) (e : Ending) (w' : World) : Prop :=
  (j = 0 ∧ e = .returned (.tuple #[lo false 0 0, .int .i64 10]) ∧ Below w.heap.size w w') ∨ (j ≠ 0 ∧ OverQ w ((i : Rat) / (j : Rat)) e w')
theorem of_q (i j : Int) (h1 : -9223372036854775808 ≤ i) (h2 : i ≤ 9223372036854775807) (h3 : -9223372036854775808 ≤ j) (h4 : j ≤ 9223372036854775807) (w : World) (hG : Gr w) :
    Calls Tryz.prog 18 #[.int .i64 i, .int .i64 j] w (OfPost w i j) := by
  have HI := Lib.hid (fun W => int_q i h1 h2 W)
  have HJ := Lib.hid (fun W => int_q j h3 h4 W)
  have HO := Lib.hid (fun v1 v2 W (hv1 : IsQ W v1 (i : Rat)) (hv2 : IsQ W v2 (j : Rat)) (hW : Below w.heap.size w W) => show Calls Tryz.prog 34 #[v1, v2] W (OfPost W i j) by
    by_cases hj : j = 0
    · exact (over_zero v1 v2 _ _ W hv1 hv2 (by rw [Rat.num_intCast]; exact hj)).mono fun _ _ h => .inl ⟨hj, h.1, h.2⟩
    · exact (over_q v1 v2 _ _ 1 W hv1 hv2 (by rw [Rat.num_intCast]; exact hj) (siz_int i h1 h2) (siz_int j h3 h4) (by decide) (hG.below hW hG.size)).mono fun _ _ h => .inr ⟨hj, h⟩)
  clear hG h1 h2 h3 h4
  go_enter Tryz.func18, Tryz.ntmps18
  go_wp2_with fail
  obtain ⟨W0, hW0, hb0, hz, hs⟩ := boxz w; rw [← hW0]; clear hW0; have HZ := Lib.hid hz; have HW0 := Lib.hid hb0; have hb0 := Below.refl W0.heap.size W0; clear hz
  clear hs
  refine (HI.out _).mono ?_
  rintro e W1 ⟨v1, rfl, hv1, hb⟩
  have HV1 := Lib.hid hv1
  have HA := Lib.hid (chain1 hb0 hb)
  obtain ⟨_, _, _, _, rfl⟩ := hv1.form
  clear hb hb0 hv1
  go_wp2_with fail
  refine (HJ.out _).mono ?_
  rintro e W2 ⟨v2, rfl, hv2, hb⟩
  have HV1' := Lib.hid (HV1.out.below hb (Nat.le_refl _))
  have HV2 := Lib.hid hv2
  have HA2 := Lib.hid (chain1 HA.out hb)
  obtain ⟨_, _, _, _, rfl⟩ := hv2.form
  clear hb hv2
  go_wp2_with fail
  refine (HO.out _ _ _ HV1'.out HV2.out (chain1 HW0.out HA2.out)).mono ?_
  rintro e W3 (⟨hj, rfl, hb⟩ | ⟨hj, v, rfl, hv, hb⟩)
  · have hb3 := chain1 HA2.out hb
    have HB3 := Lib.hid hb3
    have HHJ := Lib.hid hj
    (have hz := HZ.out.below hb3 (Nat.le_refl _); have zf := hz.frozen; obtain ⟨z0, z1, z2, z3⟩ := hz.cells; have zf0 := zf 0; have zf1 := zf 1; have zf2 := zf 2; have zf3 := zf 3; clear zf hz)
    clear hb hb3 hj
    go_wp2_with fail
    refine bodyPost_ret (v := .tuple #[lo false 0 0, .int .i64 10]) (by simp [results, Tryz.results18, go_sem, z0, z1, z2, z3]) rfl ?_
    exact .inl ⟨HHJ.out, rfl, store4 HW0.out HB3.out (Nat.le_refl _) _ _ _ _⟩
  · have hb3 := chain1 HA2.out hb
    have hv' := hv
    obtain ⟨sg9, a9, b9, p9, rfl⟩ := hv'.form
    have hz := HZ.out.below hb3 (Nat.le_refl _)
    have hfin := QNew.stored (a0 := .bool sg9) (a1 := u a9) (a2 := u b9) (a3 := .pointer p9) hz hv (chain1 HW0.out hb3) (Nat.le_refl _)
    have HFin := Lib.hid hfin
    have HHJ := Lib.hid hj
    (have hz := HZ.out.below hb3 (Nat.le_refl _); have zf := hz.frozen; obtain ⟨z0, z1, z2, z3⟩ := hz.cells; have zf0 := zf 0; have zf1 := zf 1; have zf2 := zf 2; have zf3 := zf 3; clear zf hz)
    clear hfin hv hv' hb hb3 hz hj
    go_wp2_with fail
    refine bodyPost_ret (v := .tuple #[.agg #[.bool sg9, u a9, u b9, .pointer p9], .int .i64 0]) (by simp [results, Tryz.results18, go_sem, z0, z1, z2, z3]) rfl ?_
    obtain ⟨v, hv, hq, hbb⟩ := HFin.out
    injection hv with hv
    subst hv
    exact .inr ⟨HHJ.out, _, rfl, hq, hbb⟩
open Go Go.RowKit Go.Proofs Lim
end Go.Proofs.YtccabfblgjcboaaGreatDoor

namespace Go.Proofs.YtccabfblgjcboaaGreatDoor.Lim
def cutI (r : Rat) : Int := if r.num < 0 then -((r.num.natAbs / r.den : Nat) : Int) else ((r.num.natAbs / r.den : Nat) : Int)
theorem cutI_natAbs (r : Rat) : (cutI r).natAbs = r.num.natAbs / r.den := by
  unfold cutI
  generalize r.num.natAbs / r.den = q
  split <;> omega
theorem floor_cut (r : Rat) : r.floor = if r.num < 0 ∧ r.num.natAbs % r.den ≠ 0 then cutI r - 1 else cutI r := by
  rw [Rat.floor_def]
  unfold cutI
  have hd := r.den_pos
  have h1 := Nat.div_add_mod r.num.natAbs r.den
  have h2 := Nat.mod_lt r.num.natAbs hd
  have h3 := Int.mul_ediv_add_emod r.num r.den
  have h4 := Int.emod_nonneg r.num (b := (r.den : Int)) (by omega)
  have h5 := Int.emod_lt_of_pos r.num (b := (r.den : Int)) (by omega)
  generalize r.num / (r.den : Int) = Q at *
  generalize r.num % (r.den : Int) = R at *
  generalize r.num.natAbs / r.den = q at *
  generalize r.num.natAbs % r.den = m at *
  generalize r.den = d at *
  by_cases hn : r.num < 0
  · have e : (r.num : Int) = -((d : Int) * q + m) := by have : (r.num.natAbs : Int) = -r.num := by omega
                                                        rw [← h1] at this; push_cast at this; omega
    by_cases hm : m = 0
    · subst hm
      rw [if_neg (by simp), if_pos hn]
      have : (d : Int) * (Q + q) = -R := by rw [Int.mul_add]; rw [e] at h3; push_cast at h3; omega
      have h0 : Q + q = 0 := by
        rcases Int.lt_trichotomy (Q + q) 0 with h | h | h
        · have := Int.mul_le_mul_of_nonneg_left (show Q + q ≤ -1 by omega) (show (0:Int) ≤ d by omega); omega
        · exact h
        · have := Int.mul_le_mul_of_nonneg_left (show 1 ≤ Q + q by omega) (show (0:Int) ≤ d by omega); omega
      omega
    · rw [if_pos ⟨hn, hm⟩, if_pos hn]
      have : (d : Int) * (Q + q) = -R - m := by rw [Int.mul_add]; omega
      have h0 : Q + q = -1 := by
        rcases Int.lt_trichotomy (Q + q) (-1) with h | h | h
        · have := Int.mul_le_mul_of_nonneg_left (show Q + q ≤ -2 by omega) (show (0:Int) ≤ d by omega); omega
        · exact h
        · have := Int.mul_le_mul_of_nonneg_left (show 0 ≤ Q + q by omega) (show (0:Int) ≤ d by omega); omega
      omega
  · have e : (r.num : Int) = (d : Int) * q + m := by have : (r.num.natAbs : Int) = r.num := by omega
                                                     rw [← h1] at this; push_cast at this; omega
    rw [if_neg (by simp [hn]), if_neg hn]
    have : (d : Int) * (Q - q) = m - R := by rw [Int.mul_sub]; omega
    have h0 : Q - q = 0 := by
      rcases Int.lt_trichotomy (Q - q) 0 with h | h | h
      · have := Int.mul_le_mul_of_nonneg_left (show Q - q ≤ -1 by omega) (show (0:Int) ≤ d by omega); omega
      · exact h
      · have := Int.mul_le_mul_of_nonneg_left (show 1 ≤ Q - q by omega) (show (0:Int) ≤ d by omega); omega
    omega
theorem den_one_iff (r : Rat) : r.num.natAbs % r.den = 0 ↔ r.den = 1 := by
  constructor
  · intro h
    have := r.reduced
    have hd : r.den ∣ r.num.natAbs := Nat.dvd_of_mod_eq_zero h
    have hg : Nat.gcd r.num.natAbs r.den = r.den := Nat.gcd_eq_right hd
    rw [Nat.Coprime, hg] at this
    exact this
  · intro h; rw [h, Nat.mod_one]
theorem ceil_neg (r : Rat) : r.ceil = -((-r).floor) := by
  unfold Rat.ceil
  rw [Rat.floor_def, Rat.neg_num, Rat.neg_den]
  have hd := r.den_pos
  by_cases h : r.den = 1
  · rw [if_pos h, h]; simp
  · rw [if_neg h]
    have h0 : r.num % (r.den : Int) ≠ 0 := by
      intro e
      refine h ((den_one_iff r).1 (Nat.mod_eq_zero_of_dvd ?_))
      have := Int.natAbs_dvd_natAbs.2 (Int.dvd_of_emod_eq_zero e)
      simpa using this
    rw [Int.neg_ediv, if_neg (by rw [Int.dvd_iff_emod_eq_zero]; exact h0)]
    have : Int.sign (r.den : Int) = 1 := Int.sign_eq_one_of_pos (by omega)
    omega
theorem ceil_cut (r : Rat) : r.ceil = if ¬ r.num < 0 ∧ r.num.natAbs % r.den ≠ 0 then cutI r + 1 else cutI r := by
  rw [ceil_neg, floor_cut]
  unfold cutI
  rw [Rat.neg_num, Rat.neg_den, Int.natAbs_neg]
  rcases Int.lt_trichotomy r.num 0 with h | h | h
  · rw [if_neg (by omega), if_neg (by simp; omega), if_neg (by omega), if_pos h]
  · rw [h]; simp
  · rw [if_pos (show -r.num < 0 by omega), if_neg (show ¬ r.num < 0 by omega)]
    by_cases hm : r.num.natAbs % r.den = 0
    · simp [hm]
    · rw [if_pos ⟨by omega, hm⟩, if_pos ⟨by omega, hm⟩]; omega
end Go.Proofs.YtccabfblgjcboaaGreatDoor.Lim

namespace Go.Proofs.YtccabfblgjcboaaGreatDoor
open Go Go.RowKit Go.Proofs Lim
def CutPost (w : World) (t : Rat) (rest : Bool) (e : Ending) (w' : World) : Prop := ∃ v, e = .returned (.tuple #[v, .bool rest]) ∧ IsQ w' v t ∧ Below w.heap.size w w'
def hasRest (r : Rat) : Bool := decide (r.num.natAbs % r.den ≠ 0)
theorem cutI_neg (r : Rat) (n : Nat) (hn : n = r.num.natAbs / r.den) : (neg? r && !decide (n = 0)) = decide (cutI r < 0) := by
  unfold cutI
  rw [← hn, Bool.eq_iff_iff]
  by_cases h : r.num < 0
  · simp [h]; omega
  · simp [h]
theorem cut_low (r : Rat) (l : Nat) (hd : r.den = l + 1) (hn : r.num.natAbs < B) (hdB : r.den < B) (w : World) :
    Calls Tryz.prog 99 #[lo (neg? r) r.num.natAbs l] w (CutPost w ((cutI r : Int) : Rat) (hasRest r)) := by
  have hqB : r.num.natAbs / r.den < B := Nat.lt_of_le_of_lt (Nat.div_le_self _ _) hn
  have hmB : r.num.natAbs % r.den < B := Nat.lt_of_le_of_lt (Nat.mod_le _ _) hn
  have hq : ∀ W, IsQ W (lo (neg? r && !decide (r.num.natAbs / r.den = 0)) (r.num.natAbs / r.den) (difLo 1 1)) ((cutI r : Int) : Rat) := by
    intro W
    unfold IsQ
    rw [Rat.num_intCast, Rat.den_intCast, cutI_natAbs, cutI_neg r _ rfl]
    exact Num.low 0 rfl rfl hqB (by decide)
  have HQ := Lib.hid hq
  have HS := Lib.hid (fun W => show Calls Tryz.prog 86 #[.bool (neg? r), u (r.num.natAbs / r.den), .int .u64 1] W (Val W (lo (neg? r && !decide (r.num.natAbs / r.den = 0)) (r.num.natAbs / r.den) (difLo 1 1))) from small_any (neg? r) (r.num.natAbs / r.den) 1 (by decide) W)
  have HBo := Lib.hid (fun W => bottom_any (neg? r) r.num.natAbs l none (hd ▸ hdB) W)
  rw [← hd] at HBo
  have d0 : ¬ r.den = 0 := r.den_nz
  unfold hasRest
  clear hq hd
  generalize ((cutI r : Int) : Rat) = t at *
  generalize neg? r = sg at *
  generalize r.num.natAbs = n at *
  generalize r.den = d at *
  have t1 : Int.tdiv ((n : Nat) : Int) ((d : Nat) : Int) = ((n / d : Nat) : Int) := by rw [Int.tdiv_eq_ediv_of_nonneg (by omega), Int.natCast_ediv]
  have t2 : Int.tmod ((n : Nat) : Int) ((d : Nat) : Int) = ((n % d : Nat) : Int) := by rw [Int.tmod_eq_emod_of_nonneg (by omega), Int.natCast_emod]
  have t3 : ((n : Nat) : Int) / ((d : Nat) : Int) = ((n / d : Nat) : Int) := by rw [Int.natCast_ediv]
  have t4 : ((n : Nat) : Int) % ((d : Nat) : Int) = ((n % d : Nat) : Int) := by rw [Int.natCast_emod]
  generalize n / d = q at *
  generalize n % d = m at *
  have w1 : IntKind.u64.wrap ((q : Nat) : Int) = (q : Int) := wrap_nat hqB
  have w2 : IntKind.u64.wrap ((m : Nat) : Int) = (m : Int) := wrap_nat hmB
  have hm0 : (((m : Nat) : Int) != 0) = decide (m ≠ 0) := by rw [Bool.eq_iff_iff]; simp
  have y1 : (((d : Nat) : Int) == 0) = false := by rw [beq_eq_false_iff_ne]; omega
  generalize decide (m ≠ 0) = rest at *
  generalize (sg && !decide (q = 0)) = sg2 at *
  generalize difLo 1 1 = l2 at *
  go_enter Tryz.func99, Tryz.ntmps99
  go_wp2_with fail
  obtain ⟨W0, hW0, hb0, hx0, hz⟩ := box2w w (.bool sg) (u n) (u l) (.pointer none); rw [← hW0]; clear hW0; obtain ⟨f0, f1, f2, f3⟩ := hx0.cells; have HZ := Lib.hid hz; have HW0 := Lib.hid hb0; have hb0 := Below.refl W0.heap.size W0; clear hz hx0; have n1 : ¬ w.heap.size = w.heap.size + 1 := (by omega); have n2 : ¬ w.heap.size + 1 = w.heap.size := (by omega)
  go_region_held3 (fun w' => (w'.cell? ⟨w.heap.size, 0, none⟩ = some (.bool sg) ∧ w'.cell? ⟨w.heap.size, 1, none⟩ = some (u n) ∧ w'.cell? ⟨w.heap.size, 2, none⟩ = some (u l) ∧ w'.cell? ⟨w.heap.size, 3, none⟩ = some (.pointer none))) (go_keep) (first | ((with_reducible refine (HBo.out _).mono ?_); rintro e W1 ⟨rfl, hb⟩; (obtain ⟨_, _, _, _⟩ := boxq (b := w.heap.size) hb (by assumption) (by assumption) (by assumption) (by assumption)); have hb0 : Below W0.heap.size W0 W1 := (by first | exact chain hb0 hb | exact chain1 hb0 hb); clear hb; (have hz := HZ.out.below hb0 (Nat.le_refl _); have zf := hz.frozen; obtain ⟨z0, z1, z2, z3⟩ := hz.cells; have zf0 := zf 0; have zf1 := zf 1; have zf2 := zf 2; have zf3 := zf 3; clear zf hz)) | ((with_reducible refine (HS.out _).mono ?_); rintro e W2 ⟨rfl, hb⟩; (obtain ⟨_, _, _, _⟩ := boxq (b := w.heap.size) hb (by assumption) (by assumption) (by assumption) (by assumption)); have hb0 : Below W0.heap.size W0 W2 := (by first | exact chain hb0 hb | exact chain1 hb0 hb); clear hb; (have hz := HZ.out.below hb0 (Nat.le_refl _); have zf := hz.frozen; obtain ⟨z0, z1, z2, z3⟩ := hz.cells; have zf0 := zf 0; have zf1 := zf 1; have zf2 := zf 2; have zf3 := zf 3; clear zf hz)))
  have hz := HZ.out.below hb0 (Nat.le_refl _)
  have hfin := QNew.stored (a0 := .bool sg2) (a1 := u q) (a2 := u l2) (a3 := .pointer none) hz (HQ.out _) (chain1 HW0.out hb0) (by omega)
  have HFin := Lib.hid hfin
  clear hfin hz f0 f1 f2 f3
  go_wp2_with fail
  refine bodyPost_ret (v := .tuple #[lo sg2 q l2, .bool rest]) (by simp [results, Tryz.results99, go_sem, z0, z1, z2, z3]) rfl ?_
  obtain ⟨v, hv, hq, hbb⟩ := HFin.out
  injection hv with hv
  subst hv
  exact ⟨_, rfl, hq, hbb⟩
theorem cut_wide (r : Rat) (b k : Nat) (x y : Value) (w : World) (hx : w.cell? ⟨b, 0, none⟩ = some x) (hy : w.cell? ⟨b, 1, none⟩ = some y) (h1 : IsNat w x r.num.natAbs) (h2 : IsNat w y r.den)
    (hk : r.num.natAbs < B ^ k) (hk2 : (k : Int) ≤ 1073741824) :
    Calls Tryz.prog 99 #[wi (neg? r) ⟨b, 0, none⟩] w (CutPost w ((cutI r : Int) : Rat) (hasRest r)) := by
  have HOv := Lib.hid (fun W (hW : Below w.heap.size w W) => over_any x y r.num.natAbs r.den k W (h1.below hW (Nat.le_refl _)) (h2.below hW (Nat.le_refl _)) r.den_pos hk hk2)
  have HW := Lib.hid (fun v W (hv : IsNat W v (r.num.natAbs / r.den)) => (whole_any (neg? r) v _ W hv).mono fun e W' h => h.q (r := ((cutI r : Int) : Rat)) (by rw [Rat.num_intCast]; unfold cutI sgn neg?; simp) (by rw [Rat.den_intCast]))
  obtain ⟨xa, xl, xc, rfl, _⟩ := h1.form
  obtain ⟨ya, yl, yc, rfl, _⟩ := h2.form
  unfold hasRest
  clear h1 h2 hk hk2
  generalize ((cutI r : Int) : Rat) = t at *
  generalize neg? r = sg at *
  obtain ⟨rest, hrest⟩ : ∃ rest, rest = decide (r.num.natAbs % r.den ≠ 0) := ⟨_, rfl⟩
  rw [← hrest]
  have HRest := Lib.hid hrest
  clear hrest
  go_enter Tryz.func99, Tryz.ntmps99
  go_wp2_with fail
  have p1 : ¬ b = w.heap.size + 1 := by have := World.block_lt_of_cell? w _ hx; simp at this; omega
  have p2 : ¬ w.heap.size + 1 = b := fun h => p1 h.symm
  obtain ⟨W0, hW0, hb0, hx0, hz⟩ := box2w w (.bool sg) (u 0) (u 0) (.pointer (some ⟨b, 0, none⟩)); rw [← hW0]; clear hW0; obtain ⟨f0, f1, f2, f3⟩ := hx0.cells; have HZ := Lib.hid hz; have HW0 := Lib.hid hb0; have hb0 := Below.refl W0.heap.size W0; clear hz hx0; have n1 : ¬ w.heap.size = w.heap.size + 1 := (by omega); have n2 : ¬ w.heap.size + 1 = w.heap.size := (by omega)
  have hx : W0.cell? ⟨b, 0, none⟩ = some (.slice xa xl xc) := (HW0.out.cell (p := ⟨b, 0, none⟩) (World.block_lt_of_cell? w _ hx)).trans hx
  have hy : W0.cell? ⟨b, 1, none⟩ = some (.slice ya yl yc) := (HW0.out.cell (p := ⟨b, 1, none⟩) (World.block_lt_of_cell? w _ hy)).trans hy
  go_region_held3 (fun w' => (w'.cell? ⟨w.heap.size, 0, none⟩ = some (.bool sg) ∧ w'.cell? ⟨w.heap.size, 3, none⟩ = some (.pointer (some ⟨b, 0, none⟩))) ∧ w'.cell? ⟨b, 0, none⟩ = some (.slice xa xl xc) ∧ w'.cell? ⟨b, 1, none⟩ = some (.slice ya yl yc)) (go_keep) (((with_reducible refine (HOv.out _ (HW0.out.drew)).mono ?_); rintro e W1 ⟨qv, rv, rfl, hqv, hrv, hb⟩; (obtain ⟨_, _, _, _⟩ := boxq (b := w.heap.size) hb (by assumption) (by assumption) (by assumption) (by assumption)); have hb3 := chain hb0 hb; have k1 := (hb3.cell (p := ⟨b, 0, none⟩) (World.block_lt_of_cell? W0 _ hx)).trans hx; have k2 := (hb3.cell (p := ⟨b, 1, none⟩) (World.block_lt_of_cell? W0 _ hy)).trans hy; obtain ⟨qa, ql, qc, rfl, _⟩ := hqv.form; obtain ⟨ra, rl, rc, rfl, _, hrz, _⟩ := hrv.form; (have hz := HZ.out.below hb3 (Nat.le_refl _); have zf := hz.frozen; obtain ⟨z0, z1, z2, z3⟩ := hz.cells; have zf0 := zf 0; have zf1 := zf 1; have zf2 := zf 2; have zf3 := zf 3; clear zf hz)))
  have hrb : (((rl : Nat) : Int) != 0) = rest := by
    rw [HRest.out, Bool.eq_iff_iff]
    simp
    exact not_congr hrz
  have HQV := Lib.hid hqv
  have HA := Lib.hid hb3
  clear hqv hrv hb hb0 hb3 hrz k1 k2 hx hy f0 f1 f2 f3 z0 z1 z2 z3 zf0 zf1 zf2 zf3 p1 p2
  go_wp2_with fail
  refine (HW.out _ _ HQV.out).mono ?_
  rintro e W2 ⟨v, rfl, hv, hb⟩
  have hb3 := chain1 HA.out hb
  have hv' := hv
  obtain ⟨sg9, a9, b9, p9, rfl⟩ := hv'.form
  have hz := HZ.out.below hb3 (Nat.le_refl _)
  have hfin := QNew.stored (a0 := .bool sg9) (a1 := u a9) (a2 := u b9) (a3 := .pointer p9) hz hv (chain1 HW0.out hb3) (by omega)
  have HFin := Lib.hid hfin
  (have hz := HZ.out.below hb3 (Nat.le_refl _); have zf := hz.frozen; obtain ⟨z0, z1, z2, z3⟩ := hz.cells; have zf0 := zf 0; have zf1 := zf 1; have zf2 := zf 2; have zf3 := zf 3; clear zf hz)
  clear hfin hv hv' hb hb3 hz
  go_wp2_with fail
  refine bodyPost_ret (v := .tuple #[.agg #[.bool sg9, u a9, u b9, .pointer p9], .bool rest]) (by simp [results, Tryz.results99, go_sem, z0, z1, z2, z3]) rfl ?_
  obtain ⟨v, hv, hq, hbb⟩ := HFin.out
  injection hv with hv
  subst hv
  exact ⟨_, rfl, hq, hbb⟩
theorem cut_q (v : Value) (r : Rat) (k : Nat) (w : World) (h : IsQ w v r) (z : Siz r k) (hk : (k : Int) ≤ 1073741824) :
    Calls Tryz.prog 99 #[v] w (CutPost w ((cutI r : Int) : Rat) (hasRest r)) := by
  cases h with
  | low l hv hd hn hdB => subst hv; exact cut_low r l hd hn hdB w
  | wide b x y hv hx hy h1 h2 hB h0 hd => subst hv; exact cut_wide r b k x y w hx hy h1 h2 z.1 hk
open Go Go.RowKit Go.Proofs Lim
theorem Siz.cut {r : Rat} {k : Nat} (h : Siz r k) (hk : 1 ≤ k) : Siz ((cutI r : Int) : Rat) k := by
  unfold Siz at *
  rw [Rat.num_intCast, Rat.den_intCast, cutI_natAbs]
  refine ⟨Nat.lt_of_le_of_lt (Nat.div_le_self _ _) h.1, ?_⟩
  exact Nat.lt_of_lt_of_le (show 1 < B ^ 1 by decide) (Nat.pow_le_pow_right B_pos hk)
theorem QNew.alloc {w W : World} {r : Rat} {e : Ending} (h : QNew w r e W) (o : Obj) : QNew w r e (W.alloc o) := by
  obtain ⟨v, he, hq, hb⟩ := h
  exact ⟨v, he, hq.below (below1 W o) (Nat.le_refl _), hb.trans ((below1 W o).mono hb.size)⟩
theorem Siz.le {r : Rat} {k j : Nat} (h : Siz r k) (hj : k ≤ j) : Siz r j :=
  ⟨Nat.lt_of_lt_of_le h.1 (Nat.pow_le_pow_right B_pos hj), Nat.lt_of_lt_of_le h.2 (Nat.pow_le_pow_right B_pos hj)⟩
theorem floor_q (v : Value) (r : Rat) (k : Nat) (w : World) (h : IsQ w v r) (z : Siz r k) (hk1 : 1 ≤ k) (hk : ((k + k + 1 : Nat) : Int) ≤ 1073741824) (hG : Gr w) :
    Calls Tryz.prog 41 #[v] w (QNew w ((r.floor : Int) : Rat)) := by
  have HC := Lib.hid (fun W (hW : Below w.heap.size w W) => cut_q v r k W (h.below hW (Nat.le_refl _)) z (by omega))
  have HI := Lib.hid (fun W => int_q 1 (by decide) (by decide) W)
  have HM := Lib.hid (fun v1 v2 W (hv1 : IsQ W v1 ((cutI r : Int) : Rat)) (hv2 : IsQ W v2 ((1 : Int) : Rat)) (hW : Below w.heap.size w W) => minus_q v1 v2 ((cutI r : Int) : Rat) ((1 : Int) : Rat) k W hv1 hv2 (z.cut hk1) ((siz_int 1 (by decide) (by decide)).le hk1) hk (hG.below hW hG.size))
  have hfl := floor_cut r
  obtain ⟨a1, b1, p1, rfl, _⟩ := Num.form h
  clear h z hk
  by_cases hr : r.num.natAbs % r.den ≠ 0
  · have hr' : hasRest r = true := by unfold hasRest; simpa using hr
    by_cases hc : r.num < 0
    · rw [if_pos ⟨hc, hr⟩] at hfl
      rw [hfl, Rat.intCast_sub]
      rw [decide_eq_true hc, hr'] at HC
      rw [decide_eq_true hc]
      clear hfl hc hr hr'
      generalize ((cutI r : Int) : Rat) = t at *
      generalize ((1 : Int) : Rat) = t1 at *
      generalize t - t1 = tt at *
      go_enter Tryz.func41, Tryz.ntmps41
      go_wp2_with fail
      obtain ⟨W0, hW0, hb0, hx0, hz⟩ := box2w w (.bool true) (u a1) (u b1) (.pointer p1); rw [← hW0]; clear hW0; obtain ⟨f0, f1, f2, f3⟩ := hx0.cells; have HZ := Lib.hid hz; have HW0 := Lib.hid hb0; have hb0 := Below.refl W0.heap.size W0; clear hz hx0; have n1 : ¬ w.heap.size = w.heap.size + 1 := (by omega); have n2 : ¬ w.heap.size + 1 = w.heap.size := (by omega)
      refine (HC.out _ (chain1 HW0.out hb0)).mono ?_
      rintro e W1 ⟨nv, rfl, hnv, hb⟩
      (obtain ⟨_, _, _, _⟩ := boxq (b := w.heap.size) hb (by assumption) (by assumption) (by assumption) (by assumption))
      have hb3 := chain1 hb0 hb
      (have hz := HZ.out.below hb3 (Nat.le_refl _); have zf := hz.frozen; obtain ⟨z0, z1, z2, z3⟩ := hz.cells; have zf0 := zf 0; have zf1 := zf 1; have zf2 := zf 2; have zf3 := zf 3; clear zf hz)
      obtain ⟨sn, an, bn, pn, rfl⟩ := hnv.form
      have HNV := Lib.hid hnv
      have HA := Lib.hid hb3
      clear hnv hb hb0 hb3 HC
      have q0 : w.heap.size < W1.heap.size := World.block_lt_of_cell? W1 ⟨w.heap.size, 0, none⟩ (by assumption)
      have q1 : w.heap.size + 1 < W1.heap.size := World.block_lt_of_cell? W1 ⟨w.heap.size + 1, 0, none⟩ (by assumption)
      clear f0 f1 f2 f3
      go_wp2_with fail
      obtain ⟨W2, hW, hb, ⟨g0, g1, g2, g3⟩⟩ := box1 W1 (.bool sn) (u an) (u bn) (.pointer pn); rw [← hW]; clear hW
      have hb2 := chain1 HA.out hb
      have HNV := Lib.hid (HNV.out.below hb (Nat.le_refl _))
      have q2 : ¬ W1.heap.size = w.heap.size + 1 := by omega
      have q3 : ¬ w.heap.size + 1 = W1.heap.size := by omega
      have q4 : W1.heap.size ≠ w.heap.size + 1 := by omega
      clear q0 q1 z0 z1 z2 z3 zf0 zf1 zf2 zf3 HA hb
      generalize W1.heap.size = bn1 at *
      go_region_held3 (fun w' => (w'.cell? ⟨bn1, 0, none⟩ = some (.bool sn) ∧ w'.cell? ⟨bn1, 1, none⟩ = some (u an) ∧ w'.cell? ⟨bn1, 2, none⟩ = some (u bn) ∧ w'.cell? ⟨bn1, 3, none⟩ = some (.pointer pn))) (go_keep) (first | ((with_reducible refine (HI.out _).mono ?_); rintro e W3 ⟨v1, rfl, hv1, hb⟩; have hb3 := chain hb2 hb; have HN3 := (HNV.out.below (Below.refl W2.heap.size W2).drew (Nat.le_refl _)).below hb (Nat.le_refl _); (have hh := boxq (b := bn1) hb g0 g1 g2 g3; clear g0 g1 g2 g3; obtain ⟨g0, g1, g2, g3⟩ := hh); obtain ⟨_, _, _, _, rfl⟩ := hv1.form) | ((with_reducible refine (HM.out _ _ _ HN3 hv1 (chain1 HW0.out hb3)).mono ?_); rintro e W4 ⟨v2, rfl, hv2, hb'⟩; have hb4 := chain1 hb3 hb'; (have hh := boxq (b := bn1) hb' g0 g1 g2 g3; clear g0 g1 g2 g3; obtain ⟨g0, g1, g2, g3⟩ := hh); have hv' := hv2; obtain ⟨sg9, a9, b9, p9, rfl⟩ := hv'.form; (have hz := HZ.out.below hb4 (Nat.le_refl _); have zf := hz.frozen; obtain ⟨z0, z1, z2, z3⟩ := hz.cells; have zf0 := zf 0; have zf1 := zf 1; have zf2 := zf 2; have zf3 := zf 3; clear zf hz)))
      have hz := HZ.out.below hb4 (Nat.le_refl _)
      have hfin := QNew.stored (a0 := .bool sg9) (a1 := u a9) (a2 := u b9) (a3 := .pointer p9) hz hv2 (chain1 HW0.out hb4) (by omega)
      have HFin := Lib.hid hfin
      clear hfin hv2 hv' hb hb' hb4 hb3 hb2 hz
      go_wp2_with fail
      refine bodyPost_ret (v := .agg #[.bool sg9, u a9, u b9, .pointer p9]) (by simp [results, Tryz.results41, go_sem, z0, z1, z2, z3]) rfl ?_
      exact HFin.out
    · rw [if_neg (fun h => hc h.1)] at hfl
      rw [hfl]
      rw [decide_eq_false hc, hr'] at HC
      rw [decide_eq_false hc]
      clear hfl hc hr hr' HI HM
      generalize ((cutI r : Int) : Rat) = t at *
      go_enter Tryz.func41, Tryz.ntmps41
      go_wp2_with fail
      obtain ⟨W0, hW0, hb0, hx0, hz⟩ := box2w w (.bool false) (u a1) (u b1) (.pointer p1); rw [← hW0]; clear hW0; obtain ⟨f0, f1, f2, f3⟩ := hx0.cells; have HZ := Lib.hid hz; have HW0 := Lib.hid hb0; have hb0 := Below.refl W0.heap.size W0; clear hz hx0; have n1 : ¬ w.heap.size = w.heap.size + 1 := (by omega); have n2 : ¬ w.heap.size + 1 = w.heap.size := (by omega)
      refine (HC.out _ (chain1 HW0.out hb0)).mono ?_
      rintro e W1 ⟨nv, rfl, hnv, hb⟩
      (obtain ⟨_, _, _, _⟩ := boxq (b := w.heap.size) hb (by assumption) (by assumption) (by assumption) (by assumption))
      have hb3 := chain1 hb0 hb
      (have hz := HZ.out.below hb3 (Nat.le_refl _); have zf := hz.frozen; obtain ⟨z0, z1, z2, z3⟩ := hz.cells; have zf0 := zf 0; have zf1 := zf 1; have zf2 := zf 2; have zf3 := zf 3; clear zf hz)
      obtain ⟨sn, an, bn, pn, rfl⟩ := hnv.form
      have HNV := Lib.hid hnv
      have HA := Lib.hid hb3
      clear hnv hb hb0 hb3 HC
      have q0 : w.heap.size < W1.heap.size := World.block_lt_of_cell? W1 ⟨w.heap.size, 0, none⟩ (by assumption)
      have q1 : w.heap.size + 1 < W1.heap.size := World.block_lt_of_cell? W1 ⟨w.heap.size + 1, 0, none⟩ (by assumption)
      clear f0 f1 f2 f3
      have hb2 := HA.out
      have hz := HZ.out.below hb2 (Nat.le_refl _)
      have hfin := (QNew.stored (a0 := .bool sn) (a1 := u an) (a2 := u bn) (a3 := .pointer pn) hz HNV.out (chain1 HW0.out hb2) (by omega)).alloc (.cells #[.bool sn, u an, u bn, .pointer pn] 26)
      have HFin := Lib.hid hfin
      clear hfin hb2 hz HNV HA
      go_wp2_with fail
      refine bodyPost_ret (v := .agg #[.bool sn, u an, u bn, .pointer pn]) (by simp [results, Tryz.results41, go_sem, z0, z1, z2, z3, q1]) rfl ?_
      exact HFin.out
  · have hr' : hasRest r = false := by unfold hasRest; simpa using hr
    rw [if_neg (fun h => hr h.2)] at hfl
    rw [hfl]
    rw [hr'] at HC
    clear hfl hr hr' HI HM
    generalize ((cutI r : Int) : Rat) = t at *
    generalize decide (r.num < 0) = sg at *
    go_enter Tryz.func41, Tryz.ntmps41
    go_wp2_with fail
    obtain ⟨W0, hW0, hb0, hx0, hz⟩ := box2w w (.bool sg) (u a1) (u b1) (.pointer p1); rw [← hW0]; clear hW0; obtain ⟨f0, f1, f2, f3⟩ := hx0.cells; have HZ := Lib.hid hz; have HW0 := Lib.hid hb0; have hb0 := Below.refl W0.heap.size W0; clear hz hx0; have n1 : ¬ w.heap.size = w.heap.size + 1 := (by omega); have n2 : ¬ w.heap.size + 1 = w.heap.size := (by omega)
    refine (HC.out _ (chain1 HW0.out hb0)).mono ?_
    rintro e W1 ⟨nv, rfl, hnv, hb⟩
    (obtain ⟨_, _, _, _⟩ := boxq (b := w.heap.size) hb (by assumption) (by assumption) (by assumption) (by assumption))
    have hb3 := chain1 hb0 hb
    (have hz := HZ.out.below hb3 (Nat.le_refl _); have zf := hz.frozen; obtain ⟨z0, z1, z2, z3⟩ := hz.cells; have zf0 := zf 0; have zf1 := zf 1; have zf2 := zf 2; have zf3 := zf 3; clear zf hz)
    obtain ⟨sn, an, bn, pn, rfl⟩ := hnv.form
    have HNV := Lib.hid hnv
    have HA := Lib.hid hb3
    clear hnv hb hb0 hb3 HC
    have q0 : w.heap.size < W1.heap.size := World.block_lt_of_cell? W1 ⟨w.heap.size, 0, none⟩ (by assumption)
    have q1 : w.heap.size + 1 < W1.heap.size := World.block_lt_of_cell? W1 ⟨w.heap.size + 1, 0, none⟩ (by assumption)
    clear f0 f1 f2 f3
    have hb2 := HA.out
    have hz := HZ.out.below hb2 (Nat.le_refl _)
    have hfin := (QNew.stored (a0 := .bool sn) (a1 := u an) (a2 := u bn) (a3 := .pointer pn) hz HNV.out (chain1 HW0.out hb2) (by omega)).alloc (.cells #[.bool sn, u an, u bn, .pointer pn] 26)
    have HFin := Lib.hid hfin
    clear hfin hb2 hz HNV HA
    go_wp2_with fail
    refine bodyPost_ret (v := .agg #[.bool sn, u an, u bn, .pointer pn]) (by simp [results, Tryz.results41, go_sem, z0, z1, z2, z3, q1]) rfl ?_
    exact HFin.out
theorem ceil_q (v : Value) (r : Rat) (k : Nat) (w : World) (h : IsQ w v r) (z : Siz r k) (hk1 : 1 ≤ k) (hk : ((k + k + 1 : Nat) : Int) ≤ 1073741824) (hG : Gr w) :
    Calls Tryz.prog 43 #[v] w (QNew w ((r.ceil : Int) : Rat)) := by
  have HC := Lib.hid (fun W (hW : Below w.heap.size w W) => cut_q v r k W (h.below hW (Nat.le_refl _)) z (by omega))
  have HI := Lib.hid (fun W => int_q 1 (by decide) (by decide) W)
  have HM := Lib.hid (fun v1 v2 W (hv1 : IsQ W v1 ((cutI r : Int) : Rat)) (hv2 : IsQ W v2 ((1 : Int) : Rat)) (hW : Below w.heap.size w W) => plus_q v1 v2 ((cutI r : Int) : Rat) ((1 : Int) : Rat) k W hv1 hv2 (z.cut hk1) ((siz_int 1 (by decide) (by decide)).le hk1) hk (hG.below hW hG.size))
  have hfl := ceil_cut r
  obtain ⟨a1, b1, p1, rfl, _⟩ := Num.form h
  clear h z hk
  by_cases hr : r.num.natAbs % r.den ≠ 0
  · have hr' : hasRest r = true := by unfold hasRest; simpa using hr
    by_cases hc : ¬ r.num < 0
    · rw [if_pos ⟨hc, hr⟩] at hfl
      rw [hfl, Rat.intCast_add]
      rw [decide_eq_false hc, hr'] at HC
      rw [decide_eq_false hc]
      clear hfl hc hr hr'
      generalize ((cutI r : Int) : Rat) = t at *
      generalize ((1 : Int) : Rat) = t1 at *
      generalize t + t1 = tt at *
      go_enter Tryz.func43, Tryz.ntmps43
      go_wp2_with fail
      obtain ⟨W0, hW0, hb0, hx0, hz⟩ := box2w w (.bool false) (u a1) (u b1) (.pointer p1); rw [← hW0]; clear hW0; obtain ⟨f0, f1, f2, f3⟩ := hx0.cells; have HZ := Lib.hid hz; have HW0 := Lib.hid hb0; have hb0 := Below.refl W0.heap.size W0; clear hz hx0; have n1 : ¬ w.heap.size = w.heap.size + 1 := (by omega); have n2 : ¬ w.heap.size + 1 = w.heap.size := (by omega)
      refine (HC.out _ (chain1 HW0.out hb0)).mono ?_
      rintro e W1 ⟨nv, rfl, hnv, hb⟩
      (obtain ⟨_, _, _, _⟩ := boxq (b := w.heap.size) hb (by assumption) (by assumption) (by assumption) (by assumption))
      have hb3 := chain1 hb0 hb
      (have hz := HZ.out.below hb3 (Nat.le_refl _); have zf := hz.frozen; obtain ⟨z0, z1, z2, z3⟩ := hz.cells; have zf0 := zf 0; have zf1 := zf 1; have zf2 := zf 2; have zf3 := zf 3; clear zf hz)
      obtain ⟨sn, an, bn, pn, rfl⟩ := hnv.form
      have HNV := Lib.hid hnv
      have HA := Lib.hid hb3
      clear hnv hb hb0 hb3 HC
      have q0 : w.heap.size < W1.heap.size := World.block_lt_of_cell? W1 ⟨w.heap.size, 0, none⟩ (by assumption)
      have q1 : w.heap.size + 1 < W1.heap.size := World.block_lt_of_cell? W1 ⟨w.heap.size + 1, 0, none⟩ (by assumption)
      clear f0 f1 f2 f3
      go_wp2_with fail
      obtain ⟨W2, hW, hb, ⟨g0, g1, g2, g3⟩⟩ := box1 W1 (.bool sn) (u an) (u bn) (.pointer pn); rw [← hW]; clear hW
      have hb2 := chain1 HA.out hb
      have HNV := Lib.hid (HNV.out.below hb (Nat.le_refl _))
      have q2 : ¬ W1.heap.size = w.heap.size + 1 := by omega
      have q3 : ¬ w.heap.size + 1 = W1.heap.size := by omega
      have q4 : W1.heap.size ≠ w.heap.size + 1 := by omega
      clear q0 q1 z0 z1 z2 z3 zf0 zf1 zf2 zf3 HA hb
      generalize W1.heap.size = bn1 at *
      go_region_held3 (fun w' => (w'.cell? ⟨bn1, 0, none⟩ = some (.bool sn) ∧ w'.cell? ⟨bn1, 1, none⟩ = some (u an) ∧ w'.cell? ⟨bn1, 2, none⟩ = some (u bn) ∧ w'.cell? ⟨bn1, 3, none⟩ = some (.pointer pn))) (go_keep) (first | ((with_reducible refine (HI.out _).mono ?_); rintro e W3 ⟨v1, rfl, hv1, hb⟩; have hb3 := chain hb2 hb; have HN3 := (HNV.out.below (Below.refl W2.heap.size W2).drew (Nat.le_refl _)).below hb (Nat.le_refl _); (have hh := boxq (b := bn1) hb g0 g1 g2 g3; clear g0 g1 g2 g3; obtain ⟨g0, g1, g2, g3⟩ := hh); obtain ⟨_, _, _, _, rfl⟩ := hv1.form) | ((with_reducible refine (HM.out _ _ _ HN3 hv1 (chain1 HW0.out hb3)).mono ?_); rintro e W4 ⟨v2, rfl, hv2, hb'⟩; have hb4 := chain1 hb3 hb'; (have hh := boxq (b := bn1) hb' g0 g1 g2 g3; clear g0 g1 g2 g3; obtain ⟨g0, g1, g2, g3⟩ := hh); have hv' := hv2; obtain ⟨sg9, a9, b9, p9, rfl⟩ := hv'.form; (have hz := HZ.out.below hb4 (Nat.le_refl _); have zf := hz.frozen; obtain ⟨z0, z1, z2, z3⟩ := hz.cells; have zf0 := zf 0; have zf1 := zf 1; have zf2 := zf 2; have zf3 := zf 3; clear zf hz)))
      have hz := HZ.out.below hb4 (Nat.le_refl _)
      have hfin := QNew.stored (a0 := .bool sg9) (a1 := u a9) (a2 := u b9) (a3 := .pointer p9) hz hv2 (chain1 HW0.out hb4) (by omega)
      have HFin := Lib.hid hfin
      clear hfin hv2 hv' hb hb' hb4 hb3 hb2 hz
      go_wp2_with fail
      refine bodyPost_ret (v := .agg #[.bool sg9, u a9, u b9, .pointer p9]) (by simp [results, Tryz.results43, go_sem, z0, z1, z2, z3]) rfl ?_
      exact HFin.out
    · rw [if_neg (fun h => hc h.1)] at hfl
      rw [hfl]
      rw [decide_eq_true (Decidable.not_not.1 hc), hr'] at HC
      rw [decide_eq_true (Decidable.not_not.1 hc)]
      clear hfl hc hr hr' HI HM
      generalize ((cutI r : Int) : Rat) = t at *
      go_enter Tryz.func43, Tryz.ntmps43
      go_wp2_with fail
      obtain ⟨W0, hW0, hb0, hx0, hz⟩ := box2w w (.bool true) (u a1) (u b1) (.pointer p1); rw [← hW0]; clear hW0; obtain ⟨f0, f1, f2, f3⟩ := hx0.cells; have HZ := Lib.hid hz; have HW0 := Lib.hid hb0; have hb0 := Below.refl W0.heap.size W0; clear hz hx0; have n1 : ¬ w.heap.size = w.heap.size + 1 := (by omega); have n2 : ¬ w.heap.size + 1 = w.heap.size := (by omega)
      refine (HC.out _ (chain1 HW0.out hb0)).mono ?_
      rintro e W1 ⟨nv, rfl, hnv, hb⟩
      (obtain ⟨_, _, _, _⟩ := boxq (b := w.heap.size) hb (by assumption) (by assumption) (by assumption) (by assumption))
      have hb3 := chain1 hb0 hb
      (have hz := HZ.out.below hb3 (Nat.le_refl _); have zf := hz.frozen; obtain ⟨z0, z1, z2, z3⟩ := hz.cells; have zf0 := zf 0; have zf1 := zf 1; have zf2 := zf 2; have zf3 := zf 3; clear zf hz)
      obtain ⟨sn, an, bn, pn, rfl⟩ := hnv.form
      have HNV := Lib.hid hnv
      have HA := Lib.hid hb3
      clear hnv hb hb0 hb3 HC
      have q0 : w.heap.size < W1.heap.size := World.block_lt_of_cell? W1 ⟨w.heap.size, 0, none⟩ (by assumption)
      have q1 : w.heap.size + 1 < W1.heap.size := World.block_lt_of_cell? W1 ⟨w.heap.size + 1, 0, none⟩ (by assumption)
      clear f0 f1 f2 f3
      have hb2 := HA.out
      have hz := HZ.out.below hb2 (Nat.le_refl _)
      have hfin := (QNew.stored (a0 := .bool sn) (a1 := u an) (a2 := u bn) (a3 := .pointer pn) hz HNV.out (chain1 HW0.out hb2) (by omega)).alloc (.cells #[.bool sn, u an, u bn, .pointer pn] 26)
      have HFin := Lib.hid hfin
      clear hfin hb2 hz HNV HA
      go_wp2_with fail
      refine bodyPost_ret (v := .agg #[.bool sn, u an, u bn, .pointer pn]) (by simp [results, Tryz.results43, go_sem, z0, z1, z2, z3, q1]) rfl ?_
      exact HFin.out
  · have hr' : hasRest r = false := by unfold hasRest; simpa using hr
    rw [if_neg (fun h => hr h.2)] at hfl
    rw [hfl]
    rw [hr'] at HC
    clear hfl hr hr' HI HM
    generalize ((cutI r : Int) : Rat) = t at *
    generalize decide (r.num < 0) = sg at *
    go_enter Tryz.func43, Tryz.ntmps43
    go_wp2_with fail
    obtain ⟨W0, hW0, hb0, hx0, hz⟩ := box2w w (.bool sg) (u a1) (u b1) (.pointer p1); rw [← hW0]; clear hW0; obtain ⟨f0, f1, f2, f3⟩ := hx0.cells; have HZ := Lib.hid hz; have HW0 := Lib.hid hb0; have hb0 := Below.refl W0.heap.size W0; clear hz hx0; have n1 : ¬ w.heap.size = w.heap.size + 1 := (by omega); have n2 : ¬ w.heap.size + 1 = w.heap.size := (by omega)
    refine (HC.out _ (chain1 HW0.out hb0)).mono ?_
    rintro e W1 ⟨nv, rfl, hnv, hb⟩
    (obtain ⟨_, _, _, _⟩ := boxq (b := w.heap.size) hb (by assumption) (by assumption) (by assumption) (by assumption))
    have hb3 := chain1 hb0 hb
    (have hz := HZ.out.below hb3 (Nat.le_refl _); have zf := hz.frozen; obtain ⟨z0, z1, z2, z3⟩ := hz.cells; have zf0 := zf 0; have zf1 := zf 1; have zf2 := zf 2; have zf3 := zf 3; clear zf hz)
    obtain ⟨sn, an, bn, pn, rfl⟩ := hnv.form
    have HNV := Lib.hid hnv
    have HA := Lib.hid hb3
    clear hnv hb hb0 hb3 HC
    have q0 : w.heap.size < W1.heap.size := World.block_lt_of_cell? W1 ⟨w.heap.size, 0, none⟩ (by assumption)
    have q1 : w.heap.size + 1 < W1.heap.size := World.block_lt_of_cell? W1 ⟨w.heap.size + 1, 0, none⟩ (by assumption)
    clear f0 f1 f2 f3
    have hb2 := HA.out
    have hz := HZ.out.below hb2 (Nat.le_refl _)
    have hfin := (QNew.stored (a0 := .bool sn) (a1 := u an) (a2 := u bn) (a3 := .pointer pn) hz HNV.out (chain1 HW0.out hb2) (by omega)).alloc (.cells #[.bool sn, u an, u bn, .pointer pn] 26)
    have HFin := Lib.hid hfin
    clear hfin hb2 hz HNV HA
    go_wp2_with fail
    refine bodyPost_ret (v := .agg #[.bool sn, u an, u bn, .pointer pn]) (by simp [results, Tryz.results43, go_sem, z0, z1, z2, z3, q1]) rfl ?_
    exact HFin.out
open Go Go.RowKit Go.Proofs Lim
theorem bapp (a b : List UInt8) : ((⟨a.toArray⟩ : ByteArray) ++ ⟨b.toArray⟩) = ⟨(a ++ b).toArray⟩ := by
  apply ByteArray.ext
  rw [ByteArray.data_append]
  simp
theorem bapp1 (c : UInt8) (b : List UInt8) : ((⟨#[c]⟩ : ByteArray) ++ ⟨b.toArray⟩) = ⟨(c :: b).toArray⟩ := bapp [c] b
theorem bapp2 (a : List UInt8) (c : UInt8) : ((⟨a.toArray⟩ : ByteArray) ++ ⟨#[c]⟩) = ⟨(a ++ [c]).toArray⟩ := bapp a [c]
theorem ntext_len {n k : Nat} (h : n < B ^ k) : (ntext n).length ≤ 20 * k + 1 := by
  unfold ntext
  split
  · simp
  · rw [List.length_reverse, List.length_map]
    have := digits_len_le h rfl
    omega
theorem IsNat.not_one {w : World} {v : Value} {n : Nat} (h : IsNat w v n) (h0 : 0 < n) (h1 : n ≠ 1) :
    (∃ b o c, v = .slice (some ⟨b, o, none⟩) 1 c ∧ w.cell? ⟨b, o, none⟩ = some (u n)) ∨ (∃ ao l c, v = .slice ao l c ∧ l ≠ 1) := by
  rcases Nat.lt_or_ge n B with hB | hB
  · obtain ⟨b, o, c, rfl, hc⟩ := h.limb h0 hB
    exact .inl ⟨b, o, c, rfl, hc⟩
  · obtain ⟨ao, l, c, rfl, _, _, hl⟩ := h.form
    exact .inr ⟨ao, l, c, rfl, by have := hl.2 hB; omega⟩
theorem text_pos0 (v : Value) (N k : Nat) (w : World) (a1 b1 : Nat) (p1 : Option Addr) (hv : v = .agg #[.bool false, u a1, u b1, .pointer p1])
    (HP : Hid (∀ W, Below w.heap.size w W → Calls Tryz.prog 84 #[v] W (PartsPost W N 1))) (HT1 : Hid (∀ x W, IsNat W x N → Calls Tryz.prog 85 #[x] W (StrNew W (ntext N))))
    (HT2 : Hid (∀ x W, IsNat W x 1 → Calls Tryz.prog 85 #[x] W (StrNew W (ntext 1)))) (hl : (ntext N).length ≤ 21474836481) (hl2 : (ntext 1).length ≤ 21474836481) :
    Calls Tryz.prog 14 #[v] w (StrNew w (ntext N)) := by
  subst hv
  clear hl hl2
  generalize ntext N = TN at *
  go_enter Tryz.func14, Tryz.ntmps14
  go_wp2_with fail
  obtain ⟨W0, hW0, hb0, ⟨f0, f1, f2, f3⟩⟩ := box1 w (.bool false) (u a1) (u b1) (.pointer p1); rw [← hW0]; clear hW0
  refine (HP.out _ hb0).mono ?_
  rintro e W1 ⟨x, y, rfl, hx, hy, hb⟩
  (have hh := boxq (b := w.heap.size) hb f0 f1 f2 f3; clear f0 f1 f2 f3; obtain ⟨f0, f1, f2, f3⟩ := hh)
  obtain ⟨ya, yo, yc, rfl, hyc⟩ := hy.limb (by decide) (by decide)
  have HA := Lib.hid (chain1 hb0 hb)
  have HX := Lib.hid hx
  have HY := Lib.hid hy
  obtain ⟨xa, xl, xc, rfl, _⟩ := hx.form
  clear hb hb0 hx hy HP
  go_wp2_with fail
  refine (HT1.out _ _ HX.out).mono ?_
  rintro e W2 ⟨rfl, hb⟩
  (have hh := boxq (b := w.heap.size) hb f0 f1 f2 f3; clear f0 f1 f2 f3; obtain ⟨f0, f1, f2, f3⟩ := hh)
  have hyc2 : W2.cell? ⟨ya, yo, none⟩ = some (.int .u64 1) := (hb.cell (p := ⟨ya, yo, none⟩) (World.block_lt_of_cell? W1 _ hyc)).trans hyc
  have HA2 := Lib.hid (chain1 HA.out hb)
  have HY2 := Lib.hid (HY.out.below hb (Nat.le_refl _))
  clear hb HX HT1 hyc
  go_wp2_with fail
  go_ret
  refine ⟨?_, HA2.out⟩
  rfl
theorem text_pos1 (v : Value) (N k : Nat) (D : Nat) (hD0 : 0 < D) (hD1 : D ≠ 1) (w : World) (a1 b1 : Nat) (p1 : Option Addr) (hv : v = .agg #[.bool false, u a1, u b1, .pointer p1])
    (HP : Hid (∀ W, Below w.heap.size w W → Calls Tryz.prog 84 #[v] W (PartsPost W N D))) (HT1 : Hid (∀ x W, IsNat W x N → Calls Tryz.prog 85 #[x] W (StrNew W (ntext N))))
    (HT2 : Hid (∀ x W, IsNat W x D → Calls Tryz.prog 85 #[x] W (StrNew W (ntext D)))) (hl : (ntext N).length ≤ 21474836481) (hl2 : (ntext D).length ≤ 21474836481) :
    Calls Tryz.prog 14 #[v] w (StrNew w ((ntext N ++ 47 :: ntext D))) := by
  subst hv
  have l2 : ¬ 9223372036854775807 < (ntext N).length + 1 := by omega
  have l3 : ¬ 9223372036854775807 < (ntext N).length + 1 + (ntext D).length := by omega
  clear hl hl2
  generalize ntext N = TN at *
  generalize ntext D = TD at *
  go_enter Tryz.func14, Tryz.ntmps14
  go_wp2_with fail
  obtain ⟨W0, hW0, hb0, ⟨f0, f1, f2, f3⟩⟩ := box1 w (.bool false) (u a1) (u b1) (.pointer p1); rw [← hW0]; clear hW0
  refine (HP.out _ hb0).mono ?_
  rintro e W1 ⟨x, y, rfl, hx, hy, hb⟩
  (have hh := boxq (b := w.heap.size) hb f0 f1 f2 f3; clear f0 f1 f2 f3; obtain ⟨f0, f1, f2, f3⟩ := hh)
  rcases hy.not_one hD0 hD1 with ⟨ya, yo, yc, rfl, hyc⟩ | ⟨ao, yl, yc, rfl, hy1⟩
  · have HA := Lib.hid (chain1 hb0 hb)
    have HX := Lib.hid hx
    have HY := Lib.hid hy
    obtain ⟨xa, xl, xc, rfl, _⟩ := hx.form
    have hD : (((D : Nat) : Int) == 1) = false := by rw [beq_eq_false_iff_ne]; omega
    clear hb hb0 hx hy HP hD0 hD1
    go_wp2_with fail
    refine (HT1.out _ _ HX.out).mono ?_
    rintro e W2 ⟨rfl, hb⟩
    (have hh := boxq (b := w.heap.size) hb f0 f1 f2 f3; clear f0 f1 f2 f3; obtain ⟨f0, f1, f2, f3⟩ := hh)
    have hyc2 : W2.cell? ⟨ya, yo, none⟩ = some (u D) := (hb.cell (p := ⟨ya, yo, none⟩) (World.block_lt_of_cell? W1 _ hyc)).trans hyc
    have HA2 := Lib.hid (chain1 HA.out hb)
    have HY2 := Lib.hid (HY.out.below hb (Nat.le_refl _))
    clear hb HX HT1 hyc
    go_wp2_with fail
    refine (HT2.out _ _ HY2.out).mono ?_
    rintro e W3 ⟨rfl, hb⟩
    have HA3 := Lib.hid (chain1 HA2.out hb)
    clear hb HT2
    go_wp2_with fail
    go_ret
    refine ⟨?_, HA3.out⟩
    simp [bapp, bapp1, bapp2]
  · have HA := Lib.hid (chain1 hb0 hb)
    have HX := Lib.hid hx
    have HY := Lib.hid hy
    obtain ⟨xa, xl, xc, rfl, _⟩ := hx.form
    have hyl : (((yl : Nat) : Int) == 1) = false := by rw [beq_eq_false_iff_ne]; omega
    clear hb hb0 hx hy HP hD0 hD1 hy1
    go_wp2_with fail
    refine (HT1.out _ _ HX.out).mono ?_
    rintro e W2 ⟨rfl, hb⟩
    (have hh := boxq (b := w.heap.size) hb f0 f1 f2 f3; clear f0 f1 f2 f3; obtain ⟨f0, f1, f2, f3⟩ := hh)
    have HA2 := Lib.hid (chain1 HA.out hb)
    have HY2 := Lib.hid (HY.out.below hb (Nat.le_refl _))
    clear hb HX HT1
    go_wp2_with fail
    refine (HT2.out _ _ HY2.out).mono ?_
    rintro e W3 ⟨rfl, hb⟩
    have HA3 := Lib.hid (chain1 HA2.out hb)
    clear hb HT2
    go_wp2_with fail
    go_ret
    refine ⟨?_, HA3.out⟩
    simp [bapp, bapp1, bapp2]
theorem text_neg0 (v : Value) (N k : Nat) (w : World) (a1 b1 : Nat) (p1 : Option Addr) (hv : v = .agg #[.bool true, u a1, u b1, .pointer p1])
    (HP : Hid (∀ W, Below w.heap.size w W → Calls Tryz.prog 84 #[v] W (PartsPost W N 1))) (HT1 : Hid (∀ x W, IsNat W x N → Calls Tryz.prog 85 #[x] W (StrNew W (ntext N))))
    (HT2 : Hid (∀ x W, IsNat W x 1 → Calls Tryz.prog 85 #[x] W (StrNew W (ntext 1)))) (hl : (ntext N).length ≤ 21474836481) (hl2 : (ntext 1).length ≤ 21474836481) :
    Calls Tryz.prog 14 #[v] w (StrNew w (45 :: ntext N)) := by
  subst hv
  have l1 : ¬ 9223372036854775807 < 1 + (ntext N).length := by omega
  clear hl hl2
  generalize ntext N = TN at *
  go_enter Tryz.func14, Tryz.ntmps14
  go_wp2_with fail
  obtain ⟨W0, hW0, hb0, ⟨f0, f1, f2, f3⟩⟩ := box1 w (.bool true) (u a1) (u b1) (.pointer p1); rw [← hW0]; clear hW0
  refine (HP.out _ hb0).mono ?_
  rintro e W1 ⟨x, y, rfl, hx, hy, hb⟩
  (have hh := boxq (b := w.heap.size) hb f0 f1 f2 f3; clear f0 f1 f2 f3; obtain ⟨f0, f1, f2, f3⟩ := hh)
  obtain ⟨ya, yo, yc, rfl, hyc⟩ := hy.limb (by decide) (by decide)
  have HA := Lib.hid (chain1 hb0 hb)
  have HX := Lib.hid hx
  have HY := Lib.hid hy
  obtain ⟨xa, xl, xc, rfl, _⟩ := hx.form
  clear hb hb0 hx hy HP
  go_wp2_with fail
  refine (HT1.out _ _ HX.out).mono ?_
  rintro e W2 ⟨rfl, hb⟩
  (have hh := boxq (b := w.heap.size) hb f0 f1 f2 f3; clear f0 f1 f2 f3; obtain ⟨f0, f1, f2, f3⟩ := hh)
  have hyc2 : W2.cell? ⟨ya, yo, none⟩ = some (.int .u64 1) := (hb.cell (p := ⟨ya, yo, none⟩) (World.block_lt_of_cell? W1 _ hyc)).trans hyc
  have HA2 := Lib.hid (chain1 HA.out hb)
  have HY2 := Lib.hid (HY.out.below hb (Nat.le_refl _))
  clear hb HX HT1 hyc
  go_wp2_with fail
  go_ret
  refine ⟨?_, HA2.out⟩
  simp [bapp, bapp1, bapp2]
theorem text_neg1 (v : Value) (N k : Nat) (D : Nat) (hD0 : 0 < D) (hD1 : D ≠ 1) (w : World) (a1 b1 : Nat) (p1 : Option Addr) (hv : v = .agg #[.bool true, u a1, u b1, .pointer p1])
    (HP : Hid (∀ W, Below w.heap.size w W → Calls Tryz.prog 84 #[v] W (PartsPost W N D))) (HT1 : Hid (∀ x W, IsNat W x N → Calls Tryz.prog 85 #[x] W (StrNew W (ntext N))))
    (HT2 : Hid (∀ x W, IsNat W x D → Calls Tryz.prog 85 #[x] W (StrNew W (ntext D)))) (hl : (ntext N).length ≤ 21474836481) (hl2 : (ntext D).length ≤ 21474836481) :
    Calls Tryz.prog 14 #[v] w (StrNew w (45 :: (ntext N ++ 47 :: ntext D))) := by
  subst hv
  have l1 : ¬ 9223372036854775807 < 1 + (ntext N).length := by omega
  have l2 : ¬ 9223372036854775807 < 1 + (ntext N).length + 1 := by omega
  have l3 : ¬ 9223372036854775807 < 1 + (ntext N).length + 1 + (ntext D).length := by omega
  have l4 : ¬ 9223372036854775807 < (ntext N).length + 1 + 1 := by omega
  have l5 : ¬ 9223372036854775807 < (ntext N).length + 1 + 1 + (ntext D).length := by omega
  clear hl hl2
  generalize ntext N = TN at *
  generalize ntext D = TD at *
  go_enter Tryz.func14, Tryz.ntmps14
  go_wp2_with fail
  obtain ⟨W0, hW0, hb0, ⟨f0, f1, f2, f3⟩⟩ := box1 w (.bool true) (u a1) (u b1) (.pointer p1); rw [← hW0]; clear hW0
  refine (HP.out _ hb0).mono ?_
  rintro e W1 ⟨x, y, rfl, hx, hy, hb⟩
  (have hh := boxq (b := w.heap.size) hb f0 f1 f2 f3; clear f0 f1 f2 f3; obtain ⟨f0, f1, f2, f3⟩ := hh)
  rcases hy.not_one hD0 hD1 with ⟨ya, yo, yc, rfl, hyc⟩ | ⟨ao, yl, yc, rfl, hy1⟩
  · have HA := Lib.hid (chain1 hb0 hb)
    have HX := Lib.hid hx
    have HY := Lib.hid hy
    obtain ⟨xa, xl, xc, rfl, _⟩ := hx.form
    have hD : (((D : Nat) : Int) == 1) = false := by rw [beq_eq_false_iff_ne]; omega
    clear hb hb0 hx hy HP hD0 hD1
    go_wp2_with fail
    refine (HT1.out _ _ HX.out).mono ?_
    rintro e W2 ⟨rfl, hb⟩
    (have hh := boxq (b := w.heap.size) hb f0 f1 f2 f3; clear f0 f1 f2 f3; obtain ⟨f0, f1, f2, f3⟩ := hh)
    have hyc2 : W2.cell? ⟨ya, yo, none⟩ = some (u D) := (hb.cell (p := ⟨ya, yo, none⟩) (World.block_lt_of_cell? W1 _ hyc)).trans hyc
    have HA2 := Lib.hid (chain1 HA.out hb)
    have HY2 := Lib.hid (HY.out.below hb (Nat.le_refl _))
    clear hb HX HT1 hyc
    go_wp2_with fail
    refine (HT2.out _ _ HY2.out).mono ?_
    rintro e W3 ⟨rfl, hb⟩
    have HA3 := Lib.hid (chain1 HA2.out hb)
    clear hb HT2
    go_wp2_with fail
    go_ret
    refine ⟨?_, HA3.out⟩
    simp [bapp, bapp1, bapp2]
  · have HA := Lib.hid (chain1 hb0 hb)
    have HX := Lib.hid hx
    have HY := Lib.hid hy
    obtain ⟨xa, xl, xc, rfl, _⟩ := hx.form
    have hyl : (((yl : Nat) : Int) == 1) = false := by rw [beq_eq_false_iff_ne]; omega
    clear hb hb0 hx hy HP hD0 hD1 hy1
    go_wp2_with fail
    refine (HT1.out _ _ HX.out).mono ?_
    rintro e W2 ⟨rfl, hb⟩
    (have hh := boxq (b := w.heap.size) hb f0 f1 f2 f3; clear f0 f1 f2 f3; obtain ⟨f0, f1, f2, f3⟩ := hh)
    have HA2 := Lib.hid (chain1 HA.out hb)
    have HY2 := Lib.hid (HY.out.below hb (Nat.le_refl _))
    clear hb HX HT1
    go_wp2_with fail
    refine (HT2.out _ _ HY2.out).mono ?_
    rintro e W3 ⟨rfl, hb⟩
    have HA3 := Lib.hid (chain1 HA2.out hb)
    clear hb HT2
    go_wp2_with fail
    go_ret
    refine ⟨?_, HA3.out⟩
    simp [bapp, bapp1, bapp2]
theorem text_q (v : Value) (r : Rat) (k : Nat) (w : World) (h : IsQ w v r) (z : Siz r k) (hk : (k : Int) ≤ 1073741824) :
    Calls Tryz.prog 14 #[v] w (StrNew w (qtext r)) := by
  have HP := Lib.hid (fun W (hW : Below w.heap.size w W) => parts_any v (decide (r.num < 0)) r.num.natAbs r.den W (Num.below h hW (Nat.le_refl _)))
  have HT1 := Lib.hid (fun x W (hx : IsNat W x r.num.natAbs) => text_any x r.num.natAbs k W hx z.1 hk)
  have HT2 := Lib.hid (fun x W (hx : IsNat W x r.den) => text_any x r.den k W hx z.2 hk)
  have hq : qtext r = (if r.num < 0 then [45] else []) ++ ntext r.num.natAbs ++ (if r.den = 1 then [] else 47 :: ntext r.den) := rfl
  have hl1 := ntext_len z.1
  have hl2 := ntext_len z.2
  have hl1 : (ntext r.num.natAbs).length ≤ 21474836481 := by omega
  have hl2 : (ntext r.den).length ≤ 21474836481 := by omega
  obtain ⟨a1, b1, p1, hv, _⟩ := Num.form h
  have hd0 := r.den_pos
  by_cases hd : r.den = 1
  · by_cases hn : r.num < 0
    · rw [if_pos hd, if_pos hn, List.append_nil] at hq
      rw [hd] at HP HT2 hl2
      rw [hq]
      exact text_neg0 v _ k w a1 b1 p1 (by rw [hv, decide_eq_true hn]) HP HT1 HT2 hl1 hl2
    · rw [if_pos hd, if_neg hn, List.append_nil, List.nil_append] at hq
      rw [hd] at HP HT2 hl2
      rw [hq]
      exact text_pos0 v _ k w a1 b1 p1 (by rw [hv, decide_eq_false hn]) HP HT1 HT2 hl1 hl2
  · by_cases hn : r.num < 0
    · rw [if_neg hd, if_pos hn, List.append_assoc] at hq
      rw [hq]
      exact text_neg1 v _ k _ hd0 hd w a1 b1 p1 (by rw [hv, decide_eq_true hn]) HP HT1 HT2 hl1 hl2
    · rw [if_neg hd, if_neg hn, List.nil_append] at hq
      rw [hq]
      exact text_pos1 v _ k _ hd0 hd w a1 b1 p1 (by rw [hv, decide_eq_false hn]) HP HT1 HT2 hl1 hl2
open Go Go.RowKit Go.Proofs Lim
theorem parse_group (l : List UInt8) (acc k : Nat) (ha : acc < 10 ^ k) (hk : k + l.length ≤ 19) :
    Lib.parseUintM (2 ^ 64 - 1) acc l = if l.all isDig then .ok (l.foldl (fun a c => 10 * a + (c.toNat - 48)) acc) else Lib.parseUintB 64 [] := by
  induction l generalizing acc k with
  | nil => simp [Lib.parseUintM]
  | cons c l ih =>
    rw [Lib.parseUintM]
    simp only [List.length_cons] at hk
    by_cases hc : 48 ≤ c.toNat ∧ c.toNat ≤ 57
    · have hd : isDig c = true := by unfold isDig; simp [hc]
      have h1 : 10 ^ k ≤ 10 ^ 18 := Nat.pow_le_pow_right (by omega) (by omega)
      have h2 : acc * 10 + (c.toNat - 48) < 10 ^ (k + 1) := by rw [Nat.pow_succ]; omega
      have h3 : 10 ^ (k + 1) ≤ 10 ^ 19 := Nat.pow_le_pow_right (by omega) (by omega)
      rw [if_pos hc, if_neg (by omega), if_neg (by omega), ih _ (k + 1) h2 (by omega)]
      simp only [List.all_cons, hd, Bool.true_and, List.foldl_cons]
      rw [Nat.mul_comm acc 10]
    · have hd : isDig c = false := by unfold isDig; simp; omega
      rw [if_neg hc]
      simp only [List.all_cons, hd, Bool.false_and]
      rfl
theorem str_size_le (l : List UInt8) {a b : Nat} (h : l.length ≤ a) (hab : a ≤ b) : (⟨l.toArray⟩ : ByteArray).size ≤ b := by
  have : (⟨l.toArray⟩ : ByteArray).size = l.length := by simp [ByteArray.size]
  omega
theorem parse_ok (l : List UInt8) (h0 : l ≠ []) (h19 : l.length ≤ 19) (hd : l.all isDig = true) (w : World) :
    Calls Tryz.prog 116 #[str l, .int .i64 10, .int .i64 64] w (fun e w' => e = .returned (.tuple #[u (dval l), .nilIface]) ∧ Below w.heap.size w w') := by
  have h : Lib.parseUintB 64 (⟨l.toArray⟩ : ByteArray).data.toList = .ok (dval l) := by
    unfold Lib.parseUintB
    rw [if_neg (by simpa using h0), parse_group _ 0 0 (by decide) (by simpa using h19)]
    simp only [hd, if_true]
    rfl
  refine (Tryz.strconv_ParseUint_10_at64_ok ⟨l.toArray⟩ (str_size_le l h19 (by omega)) (dval l) h w).mono ?_
  rintro e w' ⟨rfl, hw⟩
  refine ⟨rfl, ?_⟩
  rcases hw with rfl | rfl
  · exact Below.refl _ _
  · exact Lib.bytesWorld_below _ _ _
theorem parse_bad (l : List UInt8) (h0 : l ≠ []) (h19 : l.length ≤ 19) (hd : l.all isDig = false) (w : World) (hG : Gr w) :
    Calls Tryz.prog 116 #[str l, .int .i64 10, .int .i64 64] w (fun e w' => ∃ t p, e = .returned (.tuple #[.int .u64 0, .iface t (.pointer (some p))]) ∧ Below w.heap.size w w') := by
  have h : Lib.parseUintB 64 (⟨l.toArray⟩ : ByteArray).data.toList = Lib.parseUintB 64 [] := by
    unfold Lib.parseUintB
    rw [if_neg (by simpa using h0), parse_group _ 0 0 (by decide) (by simpa using h19)]
    simp only [hd]
    rfl
  obtain ⟨tp, p, hs⟩ := hG.syn
  refine (Tryz.strconv_ParseUint_10_at64_syntax ⟨l.toArray⟩ (str_size_le l h19 (by omega)) h (.iface tp p) w hs (.inr ⟨tp, p, rfl⟩)).mono ?_
  rintro e w' ⟨N, rfl, _, _, hb⟩
  exact ⟨_, _, rfl, hb⟩
def strLen : Value → Nat
  | .string s => s.size
  | _ => 0
def ReadNatPost (w : World) (l : List UInt8) (e : Ending) (w' : World) : Prop :=
  (okNat l = true ∧ ∃ v, e = .returned (.tuple #[v, .bool true]) ∧ IsNat w' v (dval l) ∧ Below w.heap.size w w') ∨
  (okNat l = false ∧ e = .returned (.tuple #[.slice none 0 0, .bool false]) ∧ Below w.heap.size w w')
theorem extract_take (l : List UInt8) (n : Nat) : (⟨l.toArray⟩ : ByteArray).extract 0 n = ⟨(l.take n).toArray⟩ := by
  apply ByteArray.ext
  simp [ByteArray.data_extract]
theorem extract_drop (l : List UInt8) (n : Nat) : (⟨l.toArray⟩ : ByteArray).extract n l.length = ⟨(l.drop n).toArray⟩ := by
  apply ByteArray.ext
  simp [ByteArray.data_extract]
  rw [List.take_of_length_le (by simp)]
def ReadRel (w : World) (l : List UInt8) (s x : Value) (wr : World) : Prop :=
  ∃ pre rest, s = str rest ∧ l = pre ++ rest ∧ pre.all isDig = true ∧ IsNat wr x (dval pre) ∧ (pre = [] ∨ rest.length % 19 = 0) ∧ Below w.heap.size w wr
theorem readNatural_any (l : List UInt8) (w : World) (hl : l.length ≤ 100000) (hG : Gr w) : Calls Tryz.prog 77 #[str l] w (ReadNatPost w l) := by
  have HG := Lib.hid hG
  clear hG
  by_cases h0 : l = []
  · subst h0
    have hk : okNat [] = false := rfl
    go_enter Tryz.func77, Tryz.ntmps77
    go_wp2_with fail
    refine bodyPost_ret (v := .tuple #[.slice none 0 0, .bool false]) (by simp [results, Tryz.results77, go_sem]) rfl ?_
    exact .inr ⟨hk, rfl, Below.refl _ _⟩
  · have e0 : l.isEmpty = false := by cases l <;> simp_all
    have H0 := Lib.hid h0
    clear h0
    go_enter Tryz.func77, Tryz.ntmps77
    go_wp2_with fail
    go_loopw [0, 4] (fun s x wr => Hid (ReadRel w l s x wr)) (fun s _ _ => strLen s)
    case atStart => exact ⟨[], l, rfl, rfl, rfl, IsNat.zero w, .inl rfl, Below.refl _ _⟩
    case round =>
      obtain ⟨pre, rest, rfl, hpre, hd, hx, h19, hb⟩ := hrel.out
      clear hrel
      by_cases hr : rest = []
      · subst hr
        obtain ⟨xa, xl, xc, rfl, _⟩ := hx.form
        have hfin : okNat l = true ∧ IsNat wr (.slice xa xl xc) (dval l) := by
          rw [List.append_nil] at hpre
          subst hpre
          refine ⟨?_, hx⟩
          unfold okNat
          rw [hd, e0]
          rfl
        have HFin := Lib.hid hfin
        have HB := Lib.hid hb
        clear hfin hb hx h19 hpre hd
        go_wp2_with fail
        refine bodyPost_ret (v := .tuple #[.slice xa xl xc, .bool true]) (by simp [results, Tryz.results77, go_sem]) rfl ?_
        exact .inl ⟨HFin.out.1, _, rfl, HFin.out.2, HB.out⟩
      · have e1 : rest.isEmpty = false := by cases rest <;> simp_all
        have hm0 : 0 < rest.length := by cases rest <;> simp_all
        obtain ⟨q, hq⟩ : ∃ q, q = (rest.length - 1) % 19 := ⟨_, rfl⟩
        have hq19 : q < 19 := by omega
        have hqm : q + 1 ≤ rest.length := by have := Nat.mod_le (rest.length - 1) 19; omega
        have g1 : ((rest.length : Nat) : Int) - 1 = ((rest.length - 1 : Nat) : Int) := by omega
        have g2 : Int.tmod ((rest.length : Nat) - 1 : Int) 19 = (q : Int) := by rw [g1, Int.tmod_eq_emod_of_nonneg (by omega)]; omega
        have g3 : (((rest.length : Nat) : Int) - 1) % 19 = (q : Int) := by omega
        have hxt := extract_take rest (q + 1)
        have hxd := extract_drop rest (q + 1)
        have hl1 : (rest.length : Int) ≤ 100000 := by
          have := congrArg List.length hpre
          rw [List.length_append] at this
          omega
        have hqmi : (q : Int) + 1 ≤ (rest.length : Int) := by omega
        have HPre := Lib.hid hpre
        have HD := Lib.hid hd
        have HX := Lib.hid hx
        have H19 := Lib.hid h19
        have HB := Lib.hid hb
        have HQ := Lib.hid hq
        obtain ⟨xa, xl, xc, rfl, _⟩ := hx.form
        clear hpre hd hx h19 hb hq g1 hr
        go_wp2_with fail
        by_cases hg : (rest.take (q + 1)).all isDig = true
        · refine (parse_ok (rest.take (q + 1)) (by intro e; have := congrArg List.length e; rw [List.length_take, List.length_nil] at this; omega) (by rw [List.length_take]; omega) hg wr).mono ?_
          rintro e W1 ⟨rfl, hb1⟩
          have hval : dval (pre ++ rest.take (q + 1)) = dval pre * 10000000000000000000 + dval (rest.take (q + 1)) := by
            rw [dval_append]
            rcases H19.out with h | h
            · subst h; simp [dval]
            · have hq18 : q = 18 := by have := HQ.out; omega
              rw [List.length_take, hq18, Nat.min_eq_left (by omega)]
              rw [Nat.mul_comm]
          have hgl : dval (rest.take (q + 1)) < B := by
            have h1 := dval_lt (rest.take (q + 1)) (by simpa using hg)
            have h2 : 10 ^ (rest.take (q + 1)).length ≤ 10 ^ 19 := Nat.pow_le_pow_right (by omega) (by rw [List.length_take]; omega)
            exact Nat.lt_of_lt_of_le h1 (Nat.le_trans h2 (by decide))
          obtain ⟨K, hK1, hK2⟩ : ∃ K : Nat, 100000 ≤ K ∧ ((K + 1 : Nat) : Int) ≤ 1073741824 := ⟨100001, by omega, by omega⟩
          have hBK : B ≤ B ^ K := by
            have := Nat.pow_le_pow_right B_pos (show 1 ≤ K by omega)
            rwa [Nat.pow_one] at this
          have hpl : dval pre < B ^ K := by
            have h1 := dval_lt pre (by simpa using HD.out)
            have h2 : pre.length ≤ 100000 := by
              have := congrArg List.length HPre.out
              rw [List.length_append] at this
              omega
            exact Nat.lt_of_lt_of_le h1 (Nat.le_trans (Nat.pow_le_pow_left (by decide) _) (Nat.pow_le_pow_right B_pos (by omega)))
          have hnew : pre ++ rest.take (q + 1) ++ rest.drop (q + 1) = l := by rw [List.append_assoc, List.take_append_drop]; exact HPre.out.symm
          have hall : (pre ++ rest.take (q + 1)).all isDig = true := by rw [List.all_append, HD.out, hg]; rfl
          have hmod : (rest.drop (q + 1)).length % 19 = 0 := by rw [List.length_drop, HQ.out]; omega
          have hprod : dval pre * 10000000000000000000 < B ^ (K + 1) := by
            rw [Nat.pow_succ]
            exact Nat.mul_lt_mul'' hpl (by decide)
          have hgk : dval (rest.take (q + 1)) < B ^ (K + 1) := Nat.lt_of_lt_of_le hgl (by
            rw [Nat.pow_succ]
            exact Nat.le_mul_of_pos_left _ (Nat.pow_pos B_pos))
          have HW := Lib.hid (fun W => word_any (dval (rest.take (q + 1))) W hgl)
          have HT := Lib.hid (fun x y W (hx : IsNat W x (dval pre)) (hy : IsNat W y 10000000000000000000) => times_any x y (dval pre) 10000000000000000000 K W hx hy hpl (Nat.lt_of_lt_of_le (by decide) hBK) (by omega))
          have HP := Lib.hid (fun x y W (hx : IsNat W x (dval pre * 10000000000000000000)) (hy : IsNat W y (dval (rest.take (q + 1)))) => plus_any x y _ _ (K + 1) W hx hy hprod hgk hK2)
          have HVal := Lib.hid hval
          have HNew := Lib.hid hnew
          have HAll := Lib.hid hall
          have HMod := Lib.hid hmod
          have HX1 := Lib.hid (HX.out.below hb1 (Nat.le_refl _))
          have HB1 := Lib.hid (chain1 HB.out hb1)
          have hms : strLen (str (rest.drop (q + 1))) < strLen (str rest) := by
            simp [strLen, ByteArray.size]
            omega
          have HMs := Lib.hid hms
          clear hval hgl hpl hnew hall hmod hprod hgk hms hb1 hg HX HB hBK hK1 hK2
          generalize dval (rest.take (q + 1)) = gv at *
          generalize rest.drop (q + 1) = rest2 at *
          go_wp2_with fail
          have hone : IsNat (W1.alloc (.cells #[.int .u64 10000000000000000000] 23)) (.slice (some ⟨W1.heap.size, 0, none⟩) 1 1) 10000000000000000000 := one_new W1 10000000000000000000 (by decide) (by decide)
          have hb2 := below1 W1 (.cells #[.int .u64 10000000000000000000] 23)
          refine (HT.out _ _ _ (HX1.out.below hb2 (Nat.le_refl _)) hone).mono ?_
          rintro e W2 ⟨v2, rfl, hv2, hb3⟩
          have HV2 := Lib.hid hv2
          have HB2 := Lib.hid (chain1 (chain1 HB1.out hb2) hb3)
          obtain ⟨_, _, _, rfl, _⟩ := hv2.form
          clear hv2 hone hb2 hb3 HT HX1 HB1
          go_wp2_with fail
          refine (HW.out _).mono ?_
          rintro e W3 ⟨v3, rfl, hv3, hb3⟩
          have HV3 := Lib.hid hv3
          have HV2 := Lib.hid (HV2.out.below hb3 (Nat.le_refl _))
          have HB3 := Lib.hid (chain1 HB2.out hb3)
          obtain ⟨_, _, _, rfl, _⟩ := hv3.form
          clear hv3 hb3 HW HB2
          go_wp2_with fail
          refine (HP.out _ _ _ HV2.out HV3.out).mono ?_
          rintro e W4 ⟨v4, rfl, hv4, hb4⟩
          rw [← HVal.out] at hv4
          have HV4 := Lib.hid hv4
          have HB4 := Lib.hid (chain1 HB3.out hb4)
          obtain ⟨_, _, _, rfl, _⟩ := hv4.form
          clear hv4 hb4 HP HV2 HV3 HB3
          go_wp2_with fail
          go_roundw
          case rel => exact ⟨pre ++ rest.take (q + 1), rest2, rfl, HNew.out.symm, HAll.out, HV4.out, .inr HMod.out, HB4.out⟩
          case measure => exact HMs.out
        · have hg : (rest.take (q + 1)).all isDig = false := by simpa using hg
          refine (parse_bad (rest.take (q + 1)) (by intro e; have := congrArg List.length e; rw [List.length_take, List.length_nil] at this; omega) (by rw [List.length_take]; omega) hg wr (HG.out.below HB.out HG.out.size)).mono ?_
          rintro e W1 ⟨t, p, rfl, hb1⟩
          have hfin : okNat l = false := by
            rw [HPre.out]
            unfold okNat
            rw [← List.take_append_drop (q + 1) rest, List.all_append, List.all_append, hg]
            simp
          have HFin := Lib.hid hfin
          have HB1 := Lib.hid (chain1 HB.out hb1)
          clear hfin hb1 hg hxt hxd
          go_wp2_with fail
          refine bodyPost_ret (v := .tuple #[.slice none 0 0, .bool false]) (by simp [results, Tryz.results77, go_sem]) rfl ?_
          exact .inr ⟨HFin.out, rfl, HB1.out⟩
end Go.Proofs.YtccabfblgjcboaaGreatDoor

namespace Go.Proofs.YtccabfblgjcboaaGreatDoor.Lim
theorem natAbs_div_le (n : Int) (g : Nat) : (n / (g : Int)).natAbs ≤ n.natAbs := by
  rcases Nat.eq_zero_or_pos g with h | h
  · subst h; simp
  · rcases (Decidable.em (n < 0)) with hn | hn
    · have h1 := Int.mul_ediv_add_emod n g
      have h2 := Int.emod_nonneg n (b := (g : Int)) (by omega)
      have h3 := Int.emod_lt_of_pos n (b := (g : Int)) (by omega)
      have h4 : n ≤ n / (g : Int) := by
        have : n * (g : Int) ≤ n * 1 := Int.mul_le_mul_of_nonpos_left (by omega) (by omega)
        rw [Int.mul_one] at this
        exact (Int.le_ediv_iff_mul_le (by omega)).2 this
      have h5 : n / (g : Int) < 0 := Int.ediv_neg_of_neg_of_pos hn (by omega)
      omega
    · have h1 : 0 ≤ n / (g : Int) := Int.ediv_nonneg (by omega) (by omega)
      have h2 : n / (g : Int) ≤ n := Int.ediv_le_self _ (by omega)
      omega
theorem mkRat_size (n : Int) (d : Nat) (hd : d ≠ 0) : (mkRat n d).num.natAbs ≤ n.natAbs ∧ (mkRat n d).den ≤ d := by
  rw [Rat.num_mkRat, Rat.den_mkRat, if_neg hd, if_neg hd]
  exact ⟨natAbs_div_le _ _, Nat.div_le_self _ _⟩
theorem mul_size (r s : Rat) : (r * s).num.natAbs ≤ r.num.natAbs * s.num.natAbs ∧ (r * s).den ≤ r.den * s.den := by
  rw [Rat.mul_def']
  have := mkRat_size (r.num * s.num) (r.den * s.den) (Nat.mul_ne_zero r.den_nz s.den_nz)
  rwa [Int.natAbs_mul] at this
theorem add_size (r s : Rat) : (r + s).num.natAbs ≤ r.num.natAbs * s.den + s.num.natAbs * r.den ∧ (r + s).den ≤ r.den * s.den := by
  rw [Rat.add_def']
  have := mkRat_size (r.num * s.den + s.num * r.den) (r.den * s.den) (Nat.mul_ne_zero r.den_nz s.den_nz)
  refine ⟨Nat.le_trans this.1 ?_, this.2⟩
  refine Nat.le_trans (Int.natAbs_add_le _ _) ?_
  rw [Int.natAbs_mul, Int.natAbs_mul]
  simp
theorem signed_num' (neg : Bool) (n : Nat) : (if neg then -(n : Rat) else (n : Rat)).num = (if neg then -(n : Int) else (n : Int)) ∧ (if neg then -(n : Rat) else (n : Rat)).den = 1 := by
  cases neg
  · exact ⟨rfl, rfl⟩
  · exact ⟨rfl, rfl⟩
end Go.Proofs.YtccabfblgjcboaaGreatDoor.Lim

namespace Go.Proofs.YtccabfblgjcboaaGreatDoor
open Go Go.RowKit Go.Proofs Lim
theorem Siz.mul {r s : Rat} {k j : Nat} (h1 : Siz r k) (h2 : Siz s j) : Siz (r * s) (k + j) := by
  obtain ⟨a, b⟩ := mul_size r s
  exact ⟨Nat.lt_of_le_of_lt a (mul_lt_pow h1.1 h2.1), Nat.lt_of_le_of_lt b (mul_lt_pow h1.2 h2.2)⟩
theorem Siz.add {r s : Rat} {k j : Nat} (h1 : Siz r k) (h2 : Siz s j) : Siz (r + s) (k + j + 1) := by
  obtain ⟨a, b⟩ := add_size r s
  have e1 := mul_lt_pow h1.1 h2.2
  have e2 := mul_lt_pow h2.1 h1.2
  rw [Nat.add_comm j k] at e2
  have e3 := mul_lt_pow h1.2 h2.2
  have h : B ^ (k + j) * 2 ≤ B ^ (k + j + 1) := by rw [Nat.pow_succ]; exact Nat.mul_le_mul_left _ two_le_B
  refine ⟨?_, ?_⟩
  · refine Nat.lt_of_le_of_lt a ?_
    omega
  · refine Nat.lt_of_le_of_lt b ?_
    omega
theorem Siz.sub {r s : Rat} {k j : Nat} (h1 : Siz r k) (h2 : Siz s j) : Siz (r - s) (k + j + 1) := by
  rw [Rat.sub_eq_add_neg]
  exact h1.add h2.neg
theorem Siz.zero (k : Nat) (h : 1 ≤ k) : Siz 0 k := by
  have : 1 < B ^ k := Nat.lt_of_lt_of_le (show 1 < B ^ 1 by decide) (Nat.pow_le_pow_right B_pos h)
  exact ⟨by simp; omega, by simp; omega⟩
theorem Siz.div {r s : Rat} {k j : Nat} (h1 : Siz r k) (h2 : Siz s j) (h0 : s.num ≠ 0) : Siz (r / s) (k + j) := by
  rw [Rat.div_def]
  exact h1.mul (h2.inv h0)
theorem pow_ten_lt {L k : Nat} (h : L ≤ 19 * k) : 10 ^ L ≤ B ^ k := by
  refine Nat.le_trans (Nat.pow_le_pow_right (by omega) h) ?_
  rw [Nat.pow_mul]
  exact Nat.pow_le_pow_left (by decide) k
theorem Siz.read (s : List UInt8) {L k : Nat} (h : s.length ≤ L) (h1 : 1 ≤ L) (hk : L ≤ 19 * k) : Siz (readQ s).1 k := by
  obtain ⟨a, b⟩ := readQ_size s h h1
  exact ⟨Nat.lt_of_lt_of_le a (pow_ten_lt hk), Nat.lt_of_lt_of_le b (pow_ten_lt hk)⟩
open Go Go.RowKit Go.Proofs Lim
theorem index_slash (s : List UInt8) : Lib.index s [47] = if (s.dropWhile (· != 47)).isEmpty then -1 else ((s.takeWhile (· != 47)).length : Int) := by
  induction s with
  | nil => rfl
  | cons c s ih =>
    rw [Lib.index]
    by_cases hc : c = 47
    · subst hc; simp
    · have h1 : (c != 47) = true := by simpa using hc
      have h2 : ([47] : List UInt8).isPrefixOf (c :: s) = false := by
        simp [List.isPrefixOf]
        exact fun e => hc e.symm
      rw [h2, List.dropWhile_cons, List.takeWhile_cons, h1, ih]
      simp only [if_true, List.length_cons]
      by_cases he : (s.dropWhile (· != 47)).isEmpty = true
      · simp [he]
      · simp only [he]
        have : (((s.takeWhile (· != 47)).length : Int) == -1) = false := by rw [beq_eq_false_iff_ne]; omega
        simp [this]
theorem cut_slash (s : List UInt8) : Lib.cut s [47] = (s.takeWhile (· != 47), (s.dropWhile (· != 47)).tail, !(s.dropWhile (· != 47)).isEmpty) := by
  unfold Lib.cut
  rw [index_slash]
  have hs := (List.takeWhile_append_dropWhile (p := (· != (47 : UInt8))) (l := s)).symm
  by_cases he : (s.dropWhile (· != 47)).isEmpty = true
  · have h0 : s.dropWhile (· != 47) = [] := by simpa using he
    rw [if_pos he, if_neg (by decide), h0]
    rw [h0, List.append_nil] at hs
    rw [← hs]
    rfl
  · rw [if_neg he, if_pos (by omega)]
    generalize s.dropWhile (· != 47) = d at *
    generalize s.takeWhile (· != 47) = t at *
    subst hs
    have h1 : (!d.isEmpty) = true := by simpa using he
    rw [h1, Int.toNat_natCast]
    refine Prod.ext ?_ (Prod.ext ?_ rfl)
    · simp
    · simp only [List.length_singleton]
      rw [← List.drop_drop, List.drop_left, List.drop_one]
theorem prefix_minus (s : List UInt8) : Lib.hasPrefix s [45] = minusOf s ∧ Lib.trimPrefix s [45] = restOf s := by
  have h1 : Lib.hasPrefix s [45] = minusOf s := by
    unfold Lib.hasPrefix minusOf
    cases s with
    | nil => rfl
    | cons c s => simp [List.isPrefixOf]; rw [Bool.eq_iff_iff]; simp; exact eq_comm
  refine ⟨h1, ?_⟩
  unfold Lib.trimPrefix restOf
  rw [h1]
  cases s with
  | nil => simp
  | cons c s => simp
theorem cutPrefix_minus (l : List UInt8) (w : World) :
    Calls Tryz.prog 75 #[str l, .string ⟨#[45]⟩] w (fun e w' => e = .returned (.tuple #[str (restOf l), .bool (minusOf l)]) ∧ w = w') := by
  refine (Tryz.strings_CutPrefix ⟨l.toArray⟩ ⟨#[45]⟩ w).mono ?_
  rintro e w' ⟨rfl, rfl⟩
  refine ⟨?_, rfl⟩
  have := prefix_minus l
  show Ending.returned (.tuple #[.string ⟨(Lib.trimPrefix l [45]).toArray⟩, .bool (Lib.hasPrefix l [45])]) = _
  rw [this.1, this.2]
theorem cut_call (l : List UInt8) (hl : l.length ≤ 100000) (w : World) (hG : Gr w) :
    Calls Tryz.prog 76 #[str l, .string ⟨#[47]⟩] w (fun e w' => e = .returned (.tuple #[str (l.takeWhile (· != 47)), str (l.dropWhile (· != 47)).tail, .bool (!(l.dropWhile (· != 47)).isEmpty)]) ∧ ∃ n, w' = w.drewN n) := by
  obtain ⟨m, hm⟩ := hG.maxLen
  refine (Tryz.strings_Cut ⟨l.toArray⟩ ⟨#[47]⟩ m w (by have := str_size_le l hl (show 100000 ≤ 4294967280 by omega); omega) hm).mono ?_
  rintro e w' ⟨rfl, hw⟩
  refine ⟨?_, hw⟩
  have := cut_slash l
  show Ending.returned (.tuple #[.string ⟨(Lib.cut l [47]).1.toArray⟩, .string ⟨(Lib.cut l [47]).2.1.toArray⟩, .bool (Lib.cut l [47]).2.2]) = _
  rw [this]
def ReadPost (w : World) (l : List UInt8) (e : Ending) (w' : World) : Prop :=
  ∃ v, e = .returned (.tuple #[v, .int .i64 (readQ l).2]) ∧ IsQ w' v (readQ l).1 ∧ Below w.heap.size w w'
theorem ReadPost.err {w w' : World} {l : List UInt8} {k : Int} (hk : readQ l = (0, k)) (hb : Below w.heap.size w w') : ReadPost w l (.returned (.tuple #[lo false 0 0, .int .i64 k])) w' := by
  refine ⟨lo false 0 0, by rw [hk], ?_, hb⟩
  rw [hk]
  exact Num.low 0 rfl rfl B_pos (show 1 < B by decide)
theorem readQ_none {l : List UInt8} (hl : ¬ 4000 < l.length) (h : parsed l = none) : readQ l = (0, 4) := by unfold readQ; rw [if_neg hl, h]
theorem readQ_some {l : List UInt8} {r : Rat} (hl : ¬ 4000 < l.length) (h : parsed l = some r) : readQ l = if qtext r = l then (r, 0) else (0, 4) := by unfold readQ; rw [if_neg hl, h]
theorem restOf_len (l : List UInt8) : (restOf l).length ≤ l.length := by unfold restOf; split <;> simp
theorem aboveOf_len (l : List UInt8) : (aboveOf l).length ≤ l.length := by
  have h := congrArg List.length (List.takeWhile_append_dropWhile (p := (· != (47 : UInt8))) (l := restOf l))
  rw [List.length_append] at h
  have := restOf_len l
  unfold aboveOf
  omega
theorem belowOf_len (l : List UInt8) : (belowOf l).length ≤ l.length + 1 := by
  unfold belowOf
  have h1 := restOf_len l
  have h := congrArg List.length (List.takeWhile_append_dropWhile (p := (· != (47 : UInt8))) (l := restOf l))
  rw [List.length_append] at h
  split
  · simp
  · rw [List.length_tail]; omega
theorem okNat_dig {l : List UInt8} (h : okNat l = true) : ∀ c ∈ l, isDig c = true := by
  unfold okNat at h
  rw [Bool.and_eq_true, List.all_eq_true] at h
  exact h.2
theorem dval_siz {l : List UInt8} {k : Nat} (h : okNat l = true) (hl : l.length ≤ 19 * k) : dval l < B ^ k :=
  Nat.lt_of_lt_of_le (dval_lt l (okNat_dig h)) (pow_ten_lt hl)
theorem one_lt_pow {k : Nat} (hk : 1 ≤ k) : 1 < B ^ k := Nat.lt_of_lt_of_le (show 1 < B ^ 1 by decide) (Nat.pow_le_pow_right B_pos hk)
theorem signed_siz {n k : Nat} (neg : Bool) (h : n < B ^ k) (hk : 1 ≤ k) : Siz (signed neg n) k := by
  have h4 := signed_num' neg n
  have h1 := one_lt_pow hk
  unfold Siz signed
  rw [h4.1, h4.2]
  refine ⟨?_, h1⟩
  cases neg
  · simpa using h
  · simpa using h
theorem nat_siz {n k : Nat} (h : n < B ^ k) (hk : 1 ≤ k) : Siz ((n : Nat) : Rat) k := by
  refine ⟨?_, one_lt_pow hk⟩
  show ((n : Nat) : Int).natAbs < B ^ k
  simpa using h
theorem read_any (l : List UInt8) (w : World) (hl : l.length ≤ 100000) (hG : Gr w) : Calls Tryz.prog 11 #[str l] w (ReadPost w l) := by
  by_cases h4 : 4000 < l.length
  · have hr : readQ l = (0, 5) := by unfold readQ; rw [if_pos h4]
    have HR := Lib.hid hr
    have hi : (4000 : Int) < (l.length : Int) := by omega
    clear hr h4 hG
    go_enter Tryz.func11, Tryz.ntmps11
    go_wp2_with fail
    refine bodyPost_ret (v := .tuple #[lo false 0 0, .int .i64 5]) (by simp [results, Tryz.results11, go_sem]) rfl ?_
    exact ReadPost.err HR.out (below1 w _)
  · have hi : ¬ (4000 : Int) < (l.length : Int) := by omega
    have HG := Lib.hid hG
    have H4 := Lib.hid h4
    have HNA := Lib.hid (fun W (hW : Below w.heap.size w W) => readNatural_any (aboveOf l) W (by have := aboveOf_len l; omega) (hG.below hW hG.size))
    have HNB := Lib.hid (fun W (hW : Below w.heap.size w W) => readNatural_any (belowOf l) W (by have := belowOf_len l; omega) (hG.below hW hG.size))
    have HCut := Lib.hid (fun W (hW : Below w.heap.size w W) => cut_call (restOf l) (by have := restOf_len l; omega) W (hG.below hW hG.size))
    clear hG h4
    go_enter Tryz.func11, Tryz.ntmps11
    go_wp2_with fail
    refine (cutPrefix_minus l _).mono ?_
    rintro e w1 ⟨rfl, rfl⟩
    go_wp2_with fail
    obtain ⟨W0, hW0, hb0, hz, hs⟩ := boxz w; rw [← hW0]; clear hW0; have HZ := Lib.hid hz; have HW0 := Lib.hid hb0; have hb0 := Below.refl W0.heap.size W0; clear hz
    clear hs
    refine (HCut.out _ HW0.out).mono ?_
    rintro e W2 ⟨rfl, q, rfl⟩
    have HA2 : Hid (Below W0.heap.size W0 (W0.drewN q)) := bdrewN hb0
    clear hb0
    generalize W0.drewN q = W2 at *
    by_cases hs : ((restOf l).dropWhile (· != 47)).isEmpty = true
    · have hbe : belowOf l = [49] := by unfold belowOf; rw [if_pos hs]
      have HNB := Lib.hid (fun W hW => show Calls Tryz.prog 77 #[.string ⟨#[49]⟩] W (ReadNatPost W (belowOf l)) from (by
        have := HNB.out W hW
        rw [show str (belowOf l) = .string ⟨#[49]⟩ from by rw [hbe]] at this
        exact this))
      rw [hs]
      show _
      rw [show (restOf l).takeWhile (· != 47) = aboveOf l from rfl]
      clear hs hbe
      go_wp2_with fail
      refine (HNA.out _ (chain1 HW0.out HA2.out)).mono ?_
      rintro e W3 (⟨hok1, va, rfl, hva, hb⟩ | ⟨hok1, rfl, hb⟩)
      · have HVA := Lib.hid hva
        have HO1 := Lib.hid hok1
        have HA3 := Lib.hid (chain1 HA2.out hb)
        obtain ⟨aa, al, ac, rfl, _⟩ := hva.form
        clear hva hok1 hb HNA HA2
        go_wp2_with fail
        refine (HNB.out _ (chain1 HW0.out HA3.out)).mono ?_
        rintro e W4 (⟨hok2, vb, rfl, hvb, hb⟩ | ⟨hok2, rfl, hb⟩)
        · obtain ⟨ba, bl, bc, rfl, _, hbz, _⟩ := hvb.form
          have HVB := Lib.hid hvb
          have HVA := Lib.hid (HVA.out.below hb (Nat.le_refl _))
          have HO2 := Lib.hid hok2
          have HA4 := Lib.hid (chain1 HA3.out hb)
          by_cases hd0 : dval (belowOf l) = 0
          · have hbl : bl = 0 := hbz.2 hd0
            have HD0 := Lib.hid hd0
            subst hbl
            clear hvb hok2 hb HNB HA3 hbz hd0
            have hfin := ReadPost.err (readQ_none H4.out (by unfold parsed; rw [HO1.out, HO2.out, HD0.out]; rfl)) (store4 HW0.out HA4.out (Nat.le_refl _) (.bool false) (.int .u64 0) (.int .u64 0) (.pointer none))
            have HFin := Lib.hid hfin
            (have hz := HZ.out.below HA4.out (Nat.le_refl _); have zf := hz.frozen; obtain ⟨z0, z1, z2, z3⟩ := hz.cells; have zf0 := zf 0; have zf1 := zf 1; have zf2 := zf 2; have zf3 := zf 3; clear zf hz)
            clear hfin
            go_wp2_with fail
            refine bodyPost_ret (v := .tuple #[lo false 0 0, .int .i64 4]) (by simp [results, Tryz.results11, go_sem, z0, z1, z2, z3]) rfl ?_
            exact HFin.out
          · have hbl : (((bl : Nat) : Int) == 0) = false := by rw [beq_eq_false_iff_ne]; intro e; exact hd0 (hbz.1 (by omega))
            have hpar : parsed l = some (signed (minusOf l) (dval (aboveOf l)) * ((dval (belowOf l) : Nat) : Rat)⁻¹) := by
              unfold parsed
              rw [HO1.out, HO2.out, Bool.true_and, Bool.true_and, if_pos (by simpa using hd0)]
            have HPar := Lib.hid (readQ_some H4.out hpar)
            have HWn := Lib.hid (fun v W (hv : IsNat W v (dval (aboveOf l))) => (whole_any (minusOf l) v _ W hv).mono fun e W' h => h.q (r := signed (minusOf l) (dval (aboveOf l))) (signed_num' _ _).1 (signed_num' _ _).2)
            have HWd := Lib.hid (fun v W (hv : IsNat W v (dval (belowOf l))) => (whole_any false v _ W hv).mono fun e W' h => h.q (r := ((dval (belowOf l) : Nat) : Rat)) rfl rfl)
            have hdn : (((dval (belowOf l) : Nat) : Rat)).num ≠ 0 := by
              show ((dval (belowOf l) : Nat) : Int) ≠ 0
              omega
            have HRc := Lib.hid (fun v W (hv : IsQ W v ((dval (belowOf l) : Nat) : Rat)) => recip_q v _ W hv hdn)
            obtain ⟨K, hK1, hK2, hK3⟩ : ∃ K : Nat, 4001 ≤ 19 * K ∧ (K : Int) ≤ 1073741824 ∧ ((K + K : Nat) : Int) ≤ 1073741824 := ⟨300, by omega, by omega, by omega⟩
            have hz1 := signed_siz (k := K) (minusOf l) (dval_siz HO1.out (by have := aboveOf_len l; omega)) (by omega)
            have hz2 := nat_siz (k := K) (dval_siz HO2.out (by have := belowOf_len l; omega)) (by omega)
            have hz3 := hz2.inv hdn
            have HTm := Lib.hid (fun v1 v2 W h1 h2 hG => timesWide_q v1 v2 (signed (minusOf l) (dval (aboveOf l))) ((dval (belowOf l) : Nat) : Rat)⁻¹ K W h1 h2 hz1 hz3 hK2 hG)
            have HTx := Lib.hid (fun v W h => text_q v (signed (minusOf l) (dval (aboveOf l)) * ((dval (belowOf l) : Nat) : Rat)⁻¹) (K + K) W h (hz1.mul hz3) hK3)
            clear hz1 hz2 hz3 hK1 hK2 hK3 hdn hpar hvb hok2 hb HNB HA3 hbz hd0
            generalize signed (minusOf l) (dval (aboveOf l)) = qn at *
            generalize hdv : ((dval (belowOf l) : Nat) : Rat) = qd at *
            go_wp2_with fail
            refine (HWn.out _ _ HVA.out).mono ?_
            rintro e W5 ⟨v1, rfl, hv1, hb⟩
            have HV1 := Lib.hid hv1
            have HVB := Lib.hid (HVB.out.below hb (Nat.le_refl _))
            have HA5 := Lib.hid (chain1 HA4.out hb)
            obtain ⟨_, _, _, _, rfl⟩ := hv1.form
            clear hv1 hb HWn HA4 HVA hdv
            go_wp2_with fail
            refine (HWd.out _ _ HVB.out).mono ?_
            rintro e W6 ⟨v2, rfl, hv2, hb⟩
            have HV1 := Lib.hid (HV1.out.below hb (Nat.le_refl _))
            have HV2 := Lib.hid hv2
            have HA6 := Lib.hid (chain1 HA5.out hb)
            obtain ⟨_, _, _, _, rfl⟩ := hv2.form
            clear hv2 hb HWd HA5 HVB
            go_wp2_with fail
            refine (HRc.out _ _ HV2.out).mono ?_
            rintro e W7 ⟨v3, rfl, hv3, hb⟩
            have HV1 := Lib.hid (HV1.out.below hb (Nat.le_refl _))
            have HV3 := Lib.hid hv3
            have HA7 := Lib.hid (chain1 HA6.out hb)
            obtain ⟨_, _, _, _, rfl⟩ := hv3.form
            clear hv3 hb HRc HA6 HV2
            go_wp2_with fail
            refine (HTm.out _ _ _ HV1.out HV3.out (HG.out.below (chain1 HW0.out HA7.out) HG.out.size)).mono ?_
            rintro e W8 ⟨v4, rfl, hv4, hb⟩
            have HV4 := Lib.hid hv4
            have HA8 := Lib.hid (chain1 HA7.out hb)
            obtain ⟨sx, ax, bx, px, rfl⟩ := hv4.form
            clear hv4 hb HTm HA7 HV1 HV3
            have hlt : w.heap.size < W8.heap.size := World.block_lt_of_cell? W8 ⟨w.heap.size, 0, none⟩ (HZ.out.below HA8.out (Nat.le_refl _)).cells.1
            go_wp2_with fail
            obtain ⟨W9, hW, hb, ⟨g0, g1, g2, g3⟩⟩ := box1 W8 (.bool sx) (u ax) (u bx) (.pointer px); rw [← hW]; clear hW
            have HV4 := Lib.hid (HV4.out.below hb (Nat.le_refl _))
            have HA9 := Lib.hid (chain1 HA8.out hb)
            have m1 : ¬ w.heap.size = W8.heap.size := by omega
            have m2 : ¬ W8.heap.size = w.heap.size := by omega
            clear hb HA8 hlt
            generalize W8.heap.size = bx1 at *
            refine (HTx.out _ _ HV4.out).mono ?_
            rintro e W10 ⟨rfl, hb⟩
            (have hh := boxq (b := bx1) hb g0 g1 g2 g3; clear g0 g1 g2 g3; obtain ⟨g0, g1, g2, g3⟩ := hh)
            have HV4 := Lib.hid (HV4.out.below hb (Nat.le_refl _))
            have HAx := Lib.hid (chain1 HA9.out hb)
            clear hb HA9 HTx
            by_cases hq : qtext (qn * qd⁻¹) = l
            · rw [hq]
              have hp := HPar.out
              rw [if_pos hq] at hp
              have hz := HZ.out.below HAx.out (Nat.le_refl _)
              have hfin := QNew.stored (a0 := .bool sx) (a1 := u ax) (a2 := u bx) (a3 := .pointer px) hz HV4.out (chain1 HW0.out HAx.out) (Nat.le_refl _)
              have HFin := Lib.hid hfin
              have HPv := Lib.hid hp
              (have hz := HZ.out.below HAx.out (Nat.le_refl _); have zf := hz.frozen; obtain ⟨z0, z1, z2, z3⟩ := hz.cells; have zf0 := zf 0; have zf1 := zf 1; have zf2 := zf 2; have zf3 := zf 3; clear zf hz)
              clear hfin hz hq hp HPar
              go_wp2_with fail
              refine bodyPost_ret (v := .tuple #[.agg #[.bool sx, u ax, u bx, .pointer px], .int .i64 0]) (by simp [results, Tryz.results11, go_sem, z0, z1, z2, z3]) rfl ?_
              obtain ⟨v, hv, hqq, hbb⟩ := HFin.out
              injection hv with hv
              subst hv
              refine ⟨_, by rw [HPv.out], ?_, hbb⟩
              rw [HPv.out]
              exact hqq
            · have hp := HPar.out
              rw [if_neg hq] at hp
              have hfin := ReadPost.err hp (store4 HW0.out HAx.out (Nat.le_refl _) (.bool false) (.int .u64 0) (.int .u64 0) (.pointer none))
              have HFin := Lib.hid hfin
              (have hz := HZ.out.below HAx.out (Nat.le_refl _); have zf := hz.frozen; obtain ⟨z0, z1, z2, z3⟩ := hz.cells; have zf0 := zf 0; have zf1 := zf 1; have zf2 := zf 2; have zf3 := zf 3; clear zf hz)
              clear hfin hp HPar HV4
              generalize qtext (qn * qd⁻¹) = tq at *
              have hqb : (tq == l) = false := by simpa using hq
              clear hq
              go_wp2_with fail
              refine bodyPost_ret (v := .tuple #[lo false 0 0, .int .i64 4]) (by simp [results, Tryz.results11, go_sem, z0, z1, z2, z3]) rfl ?_
              exact HFin.out
        · have HO2 := Lib.hid hok2
          have HA4 := Lib.hid (chain1 HA3.out hb)
          clear hok2 hb HNB HA3 HVA
          have hfin := ReadPost.err (readQ_none H4.out (by unfold parsed; rw [HO2.out, Bool.and_false, Bool.false_and]; rfl)) (store4 HW0.out HA4.out (Nat.le_refl _) (.bool false) (.int .u64 0) (.int .u64 0) (.pointer none))
          have HFin := Lib.hid hfin
          (have hz := HZ.out.below HA4.out (Nat.le_refl _); have zf := hz.frozen; obtain ⟨z0, z1, z2, z3⟩ := hz.cells; have zf0 := zf 0; have zf1 := zf 1; have zf2 := zf 2; have zf3 := zf 3; clear zf hz)
          clear hfin
          go_wp2_with fail
          refine bodyPost_ret (v := .tuple #[lo false 0 0, .int .i64 4]) (by simp [results, Tryz.results11, go_sem, z0, z1, z2, z3]) rfl ?_
          exact HFin.out
      · have HO1 := Lib.hid hok1
        have HA3 := Lib.hid (chain1 HA2.out hb)
        clear hok1 hb HNA HA2
        go_wp2_with fail
        refine (HNB.out _ (chain1 HW0.out HA3.out)).mono ?_
        rintro e W4 (⟨hok2, vb, rfl, hvb, hb⟩ | ⟨hok2, rfl, hb⟩)
        · obtain ⟨ba, bl, bc, rfl, _⟩ := hvb.form
          have HA4 := Lib.hid (chain1 HA3.out hb)
          clear hvb hok2 hb HNB HA3
          have hfin := ReadPost.err (readQ_none H4.out (by unfold parsed; rw [HO1.out, Bool.false_and, Bool.false_and]; rfl)) (store4 HW0.out HA4.out (Nat.le_refl _) (.bool false) (.int .u64 0) (.int .u64 0) (.pointer none))
          have HFin := Lib.hid hfin
          (have hz := HZ.out.below HA4.out (Nat.le_refl _); have zf := hz.frozen; obtain ⟨z0, z1, z2, z3⟩ := hz.cells; have zf0 := zf 0; have zf1 := zf 1; have zf2 := zf 2; have zf3 := zf 3; clear zf hz)
          clear hfin
          go_wp2_with fail
          refine bodyPost_ret (v := .tuple #[lo false 0 0, .int .i64 4]) (by simp [results, Tryz.results11, go_sem, z0, z1, z2, z3]) rfl ?_
          exact HFin.out
        · have HA4 := Lib.hid (chain1 HA3.out hb)
          clear hok2 hb HNB HA3
          have hfin := ReadPost.err (readQ_none H4.out (by unfold parsed; rw [HO1.out, Bool.false_and, Bool.false_and]; rfl)) (store4 HW0.out HA4.out (Nat.le_refl _) (.bool false) (.int .u64 0) (.int .u64 0) (.pointer none))
          have HFin := Lib.hid hfin
          (have hz := HZ.out.below HA4.out (Nat.le_refl _); have zf := hz.frozen; obtain ⟨z0, z1, z2, z3⟩ := hz.cells; have zf0 := zf 0; have zf1 := zf 1; have zf2 := zf 2; have zf3 := zf 3; clear zf hz)
          clear hfin
          go_wp2_with fail
          refine bodyPost_ret (v := .tuple #[lo false 0 0, .int .i64 4]) (by simp [results, Tryz.results11, go_sem, z0, z1, z2, z3]) rfl ?_
          exact HFin.out
    · have hs : ((restOf l).dropWhile (· != 47)).isEmpty = false := by simpa using hs
      have hbe : ((restOf l).dropWhile (· != 47)).tail = belowOf l := by unfold belowOf; rw [hs]; rfl
      rw [hs, hbe, show (restOf l).takeWhile (· != 47) = aboveOf l from rfl]
      clear hs hbe
      go_wp2_with fail
      refine (HNA.out _ (chain1 HW0.out HA2.out)).mono ?_
      rintro e W3 (⟨hok1, va, rfl, hva, hb⟩ | ⟨hok1, rfl, hb⟩)
      · have HVA := Lib.hid hva
        have HO1 := Lib.hid hok1
        have HA3 := Lib.hid (chain1 HA2.out hb)
        obtain ⟨aa, al, ac, rfl, _⟩ := hva.form
        clear hva hok1 hb HNA HA2
        go_wp2_with fail
        refine (HNB.out _ (chain1 HW0.out HA3.out)).mono ?_
        rintro e W4 (⟨hok2, vb, rfl, hvb, hb⟩ | ⟨hok2, rfl, hb⟩)
        · obtain ⟨ba, bl, bc, rfl, _, hbz, _⟩ := hvb.form
          have HVB := Lib.hid hvb
          have HVA := Lib.hid (HVA.out.below hb (Nat.le_refl _))
          have HO2 := Lib.hid hok2
          have HA4 := Lib.hid (chain1 HA3.out hb)
          by_cases hd0 : dval (belowOf l) = 0
          · have hbl : bl = 0 := hbz.2 hd0
            have HD0 := Lib.hid hd0
            subst hbl
            clear hvb hok2 hb HNB HA3 hbz hd0
            have hfin := ReadPost.err (readQ_none H4.out (by unfold parsed; rw [HO1.out, HO2.out, HD0.out]; rfl)) (store4 HW0.out HA4.out (Nat.le_refl _) (.bool false) (.int .u64 0) (.int .u64 0) (.pointer none))
            have HFin := Lib.hid hfin
            (have hz := HZ.out.below HA4.out (Nat.le_refl _); have zf := hz.frozen; obtain ⟨z0, z1, z2, z3⟩ := hz.cells; have zf0 := zf 0; have zf1 := zf 1; have zf2 := zf 2; have zf3 := zf 3; clear zf hz)
            clear hfin
            go_wp2_with fail
            refine bodyPost_ret (v := .tuple #[lo false 0 0, .int .i64 4]) (by simp [results, Tryz.results11, go_sem, z0, z1, z2, z3]) rfl ?_
            exact HFin.out
          · have hbl : (((bl : Nat) : Int) == 0) = false := by rw [beq_eq_false_iff_ne]; intro e; exact hd0 (hbz.1 (by omega))
            have hpar : parsed l = some (signed (minusOf l) (dval (aboveOf l)) * ((dval (belowOf l) : Nat) : Rat)⁻¹) := by
              unfold parsed
              rw [HO1.out, HO2.out, Bool.true_and, Bool.true_and, if_pos (by simpa using hd0)]
            have HPar := Lib.hid (readQ_some H4.out hpar)
            have HWn := Lib.hid (fun v W (hv : IsNat W v (dval (aboveOf l))) => (whole_any (minusOf l) v _ W hv).mono fun e W' h => h.q (r := signed (minusOf l) (dval (aboveOf l))) (signed_num' _ _).1 (signed_num' _ _).2)
            have HWd := Lib.hid (fun v W (hv : IsNat W v (dval (belowOf l))) => (whole_any false v _ W hv).mono fun e W' h => h.q (r := ((dval (belowOf l) : Nat) : Rat)) rfl rfl)
            have hdn : (((dval (belowOf l) : Nat) : Rat)).num ≠ 0 := by
              show ((dval (belowOf l) : Nat) : Int) ≠ 0
              omega
            have HRc := Lib.hid (fun v W (hv : IsQ W v ((dval (belowOf l) : Nat) : Rat)) => recip_q v _ W hv hdn)
            obtain ⟨K, hK1, hK2, hK3⟩ : ∃ K : Nat, 4001 ≤ 19 * K ∧ (K : Int) ≤ 1073741824 ∧ ((K + K : Nat) : Int) ≤ 1073741824 := ⟨300, by omega, by omega, by omega⟩
            have hz1 := signed_siz (k := K) (minusOf l) (dval_siz HO1.out (by have := aboveOf_len l; omega)) (by omega)
            have hz2 := nat_siz (k := K) (dval_siz HO2.out (by have := belowOf_len l; omega)) (by omega)
            have hz3 := hz2.inv hdn
            have HTm := Lib.hid (fun v1 v2 W h1 h2 hG => timesWide_q v1 v2 (signed (minusOf l) (dval (aboveOf l))) ((dval (belowOf l) : Nat) : Rat)⁻¹ K W h1 h2 hz1 hz3 hK2 hG)
            have HTx := Lib.hid (fun v W h => text_q v (signed (minusOf l) (dval (aboveOf l)) * ((dval (belowOf l) : Nat) : Rat)⁻¹) (K + K) W h (hz1.mul hz3) hK3)
            clear hz1 hz2 hz3 hK1 hK2 hK3 hdn hpar hvb hok2 hb HNB HA3 hbz hd0
            generalize signed (minusOf l) (dval (aboveOf l)) = qn at *
            generalize hdv : ((dval (belowOf l) : Nat) : Rat) = qd at *
            go_wp2_with fail
            refine (HWn.out _ _ HVA.out).mono ?_
            rintro e W5 ⟨v1, rfl, hv1, hb⟩
            have HV1 := Lib.hid hv1
            have HVB := Lib.hid (HVB.out.below hb (Nat.le_refl _))
            have HA5 := Lib.hid (chain1 HA4.out hb)
            obtain ⟨_, _, _, _, rfl⟩ := hv1.form
            clear hv1 hb HWn HA4 HVA hdv
            go_wp2_with fail
            refine (HWd.out _ _ HVB.out).mono ?_
            rintro e W6 ⟨v2, rfl, hv2, hb⟩
            have HV1 := Lib.hid (HV1.out.below hb (Nat.le_refl _))
            have HV2 := Lib.hid hv2
            have HA6 := Lib.hid (chain1 HA5.out hb)
            obtain ⟨_, _, _, _, rfl⟩ := hv2.form
            clear hv2 hb HWd HA5 HVB
            go_wp2_with fail
            refine (HRc.out _ _ HV2.out).mono ?_
            rintro e W7 ⟨v3, rfl, hv3, hb⟩
            have HV1 := Lib.hid (HV1.out.below hb (Nat.le_refl _))
            have HV3 := Lib.hid hv3
            have HA7 := Lib.hid (chain1 HA6.out hb)
            obtain ⟨_, _, _, _, rfl⟩ := hv3.form
            clear hv3 hb HRc HA6 HV2
            go_wp2_with fail
            refine (HTm.out _ _ _ HV1.out HV3.out (HG.out.below (chain1 HW0.out HA7.out) HG.out.size)).mono ?_
            rintro e W8 ⟨v4, rfl, hv4, hb⟩
            have HV4 := Lib.hid hv4
            have HA8 := Lib.hid (chain1 HA7.out hb)
            obtain ⟨sx, ax, bx, px, rfl⟩ := hv4.form
            clear hv4 hb HTm HA7 HV1 HV3
            have hlt : w.heap.size < W8.heap.size := World.block_lt_of_cell? W8 ⟨w.heap.size, 0, none⟩ (HZ.out.below HA8.out (Nat.le_refl _)).cells.1
            go_wp2_with fail
            obtain ⟨W9, hW, hb, ⟨g0, g1, g2, g3⟩⟩ := box1 W8 (.bool sx) (u ax) (u bx) (.pointer px); rw [← hW]; clear hW
            have HV4 := Lib.hid (HV4.out.below hb (Nat.le_refl _))
            have HA9 := Lib.hid (chain1 HA8.out hb)
            have m1 : ¬ w.heap.size = W8.heap.size := by omega
            have m2 : ¬ W8.heap.size = w.heap.size := by omega
            clear hb HA8 hlt
            generalize W8.heap.size = bx1 at *
            refine (HTx.out _ _ HV4.out).mono ?_
            rintro e W10 ⟨rfl, hb⟩
            (have hh := boxq (b := bx1) hb g0 g1 g2 g3; clear g0 g1 g2 g3; obtain ⟨g0, g1, g2, g3⟩ := hh)
            have HV4 := Lib.hid (HV4.out.below hb (Nat.le_refl _))
            have HAx := Lib.hid (chain1 HA9.out hb)
            clear hb HA9 HTx
            by_cases hq : qtext (qn * qd⁻¹) = l
            · rw [hq]
              have hp := HPar.out
              rw [if_pos hq] at hp
              have hz := HZ.out.below HAx.out (Nat.le_refl _)
              have hfin := QNew.stored (a0 := .bool sx) (a1 := u ax) (a2 := u bx) (a3 := .pointer px) hz HV4.out (chain1 HW0.out HAx.out) (Nat.le_refl _)
              have HFin := Lib.hid hfin
              have HPv := Lib.hid hp
              (have hz := HZ.out.below HAx.out (Nat.le_refl _); have zf := hz.frozen; obtain ⟨z0, z1, z2, z3⟩ := hz.cells; have zf0 := zf 0; have zf1 := zf 1; have zf2 := zf 2; have zf3 := zf 3; clear zf hz)
              clear hfin hz hq hp HPar
              go_wp2_with fail
              refine bodyPost_ret (v := .tuple #[.agg #[.bool sx, u ax, u bx, .pointer px], .int .i64 0]) (by simp [results, Tryz.results11, go_sem, z0, z1, z2, z3]) rfl ?_
              obtain ⟨v, hv, hqq, hbb⟩ := HFin.out
              injection hv with hv
              subst hv
              refine ⟨_, by rw [HPv.out], ?_, hbb⟩
              rw [HPv.out]
              exact hqq
            · have hp := HPar.out
              rw [if_neg hq] at hp
              have hfin := ReadPost.err hp (store4 HW0.out HAx.out (Nat.le_refl _) (.bool false) (.int .u64 0) (.int .u64 0) (.pointer none))
              have HFin := Lib.hid hfin
              (have hz := HZ.out.below HAx.out (Nat.le_refl _); have zf := hz.frozen; obtain ⟨z0, z1, z2, z3⟩ := hz.cells; have zf0 := zf 0; have zf1 := zf 1; have zf2 := zf 2; have zf3 := zf 3; clear zf hz)
              clear hfin hp HPar HV4
              generalize qtext (qn * qd⁻¹) = tq at *
              have hqb : (tq == l) = false := by simpa using hq
              clear hq
              go_wp2_with fail
              refine bodyPost_ret (v := .tuple #[lo false 0 0, .int .i64 4]) (by simp [results, Tryz.results11, go_sem, z0, z1, z2, z3]) rfl ?_
              exact HFin.out
        · have HO2 := Lib.hid hok2
          have HA4 := Lib.hid (chain1 HA3.out hb)
          clear hok2 hb HNB HA3 HVA
          have hfin := ReadPost.err (readQ_none H4.out (by unfold parsed; rw [HO2.out, Bool.and_false, Bool.false_and]; rfl)) (store4 HW0.out HA4.out (Nat.le_refl _) (.bool false) (.int .u64 0) (.int .u64 0) (.pointer none))
          have HFin := Lib.hid hfin
          (have hz := HZ.out.below HA4.out (Nat.le_refl _); have zf := hz.frozen; obtain ⟨z0, z1, z2, z3⟩ := hz.cells; have zf0 := zf 0; have zf1 := zf 1; have zf2 := zf 2; have zf3 := zf 3; clear zf hz)
          clear hfin
          go_wp2_with fail
          refine bodyPost_ret (v := .tuple #[lo false 0 0, .int .i64 4]) (by simp [results, Tryz.results11, go_sem, z0, z1, z2, z3]) rfl ?_
          exact HFin.out
      · have HO1 := Lib.hid hok1
        have HA3 := Lib.hid (chain1 HA2.out hb)
        clear hok1 hb HNA HA2
        go_wp2_with fail
        refine (HNB.out _ (chain1 HW0.out HA3.out)).mono ?_
        rintro e W4 (⟨hok2, vb, rfl, hvb, hb⟩ | ⟨hok2, rfl, hb⟩)
        · obtain ⟨ba, bl, bc, rfl, _⟩ := hvb.form
          have HA4 := Lib.hid (chain1 HA3.out hb)
          clear hvb hok2 hb HNB HA3
          have hfin := ReadPost.err (readQ_none H4.out (by unfold parsed; rw [HO1.out, Bool.false_and, Bool.false_and]; rfl)) (store4 HW0.out HA4.out (Nat.le_refl _) (.bool false) (.int .u64 0) (.int .u64 0) (.pointer none))
          have HFin := Lib.hid hfin
          (have hz := HZ.out.below HA4.out (Nat.le_refl _); have zf := hz.frozen; obtain ⟨z0, z1, z2, z3⟩ := hz.cells; have zf0 := zf 0; have zf1 := zf 1; have zf2 := zf 2; have zf3 := zf 3; clear zf hz)
          clear hfin
          go_wp2_with fail
          refine bodyPost_ret (v := .tuple #[lo false 0 0, .int .i64 4]) (by simp [results, Tryz.results11, go_sem, z0, z1, z2, z3]) rfl ?_
          exact HFin.out
        · have HA4 := Lib.hid (chain1 HA3.out hb)
          clear hok2 hb HNB HA3
          have hfin := ReadPost.err (readQ_none H4.out (by unfold parsed; rw [HO1.out, Bool.false_and, Bool.false_and]; rfl)) (store4 HW0.out HA4.out (Nat.le_refl _) (.bool false) (.int .u64 0) (.int .u64 0) (.pointer none))
          have HFin := Lib.hid hfin
          (have hz := HZ.out.below HA4.out (Nat.le_refl _); have zf := hz.frozen; obtain ⟨z0, z1, z2, z3⟩ := hz.cells; have zf0 := zf 0; have zf1 := zf 1; have zf2 := zf 2; have zf3 := zf 3; clear zf hz)
          clear hfin
          go_wp2_with fail
          refine bodyPost_ret (v := .tuple #[lo false 0 0, .int .i64 4]) (by simp [results, Tryz.results11, go_sem, z0, z1, z2, z3]) rfl ?_
          exact HFin.out
open Go Go.RowKit Go.Proofs Lim
open Go Go.RowKit Go.Proofs Lim
def IsS (w : World) (v : Value) (lo hi : Rat) : Prop := ∃ s1 a1 b1 p1 s2 a2 b2 p2, v = .agg #[.bool s1, u a1, u b1, .pointer p1, .bool s2, u a2, u b2, .pointer p2] ∧
    IsQ w (.agg #[.bool s1, u a1, u b1, .pointer p1]) lo ∧ IsQ w (.agg #[.bool s2, u a2, u b2, .pointer p2]) hi
theorem IsS.below {w w' : World} {v : Value} {lo hi : Rat} {k : Nat} (h : IsS w v lo hi) (hb : Below k w w') (hk : w.heap.size ≤ k) : IsS w' v lo hi := by
  obtain ⟨s1, a1, b1, p1, s2, a2, b2, p2, hv, h1, h2⟩ := h
  exact ⟨s1, a1, b1, p1, s2, a2, b2, p2, hv, h1.below hb hk, h2.below hb hk⟩
def SpNew (w : World) (lo hi : Rat) (e : Ending) (w' : World) : Prop := ∃ v, e = .returned v ∧ IsS w' v lo hi ∧ Below w.heap.size w w'
def NBox (W : World) (R : Nat) : Prop := ∃ (cs : Array Value) (t : TypeId) (fr : Nat × Nat), W.heap[R]? = some (.cells cs t fr) ∧ t ≠ 23 ∧ ∀ x, cs[0]? = some x → ∃ s, x = .bool s
theorem IsNat.other {W W' : World} {R : Nat} {v : Value} {n : Nat} (hR : NBox W R) (h : IsNat W v n) (ho : Only R W W') : IsNat W' v n := by
  obtain ⟨cs, t, fr, hb, ht, _⟩ := hR
  obtain ⟨xs, ⟨⟨ao, c, rfl, h1, h2, hr⟩, ok, typ⟩, htr, hv⟩ := h
  refine ⟨xs, ⟨⟨ao, c, rfl, h1, h2, fun hn => ?_⟩, ok, typ.other hb ht ho⟩, htr, hv⟩
  obtain ⟨b, off, rfl, row⟩ := hr hn
  refine ⟨b, off, rfl, ho.row ?_ row⟩
  intro e
  obtain ⟨cs', fr', hc⟩ := typ ⟨b, off, none⟩ _ _ rfl hn
  rw [show (⟨b, off, none⟩ : Addr).block = R from e, hb] at hc
  injection hc with hc
  injection hc with _ hc
  exact ht hc
theorem Num.other {W W' : World} {R : Nat} {v : Value} {neg : Bool} {n d : Nat} (hR : NBox W R) (h : Num W v neg n d) (ho : Only R W W') : Num W' v neg n d := by
  cases h with
  | low l hv hd hn hdB => exact .low l hv hd hn hdB
  | wide b x y hv hx hy h1 h2 hB h0 hd =>
    have hb : b ≠ R := by
      intro e
      subst e
      obtain ⟨_, _, _, rfl, _⟩ := h1.form
      obtain ⟨cs, t, fr, hb, _, hz⟩ := hR
      rw [World.cell?, hb] at hx
      obtain ⟨s, e⟩ := hz _ hx
      cases e
    exact .wide b x y hv ((ho.cell (p := ⟨b, 0, none⟩) hb).trans hx) ((ho.cell (p := ⟨b, 1, none⟩) hb).trans hy) (h1.other hR ho) (h2.other hR ho) hB h0 hd
theorem IsQ.other {W W' : World} {R : Nat} {v : Value} {r : Rat} (hR : NBox W R) (h : IsQ W v r) (ho : Only R W W') : IsQ W' v r := Num.other hR h ho
theorem IsS.other {W W' : World} {R : Nat} {v : Value} {lo hi : Rat} (hR : NBox W R) (h : IsS W v lo hi) (ho : Only R W W') : IsS W' v lo hi := by
  obtain ⟨s1, a1, b1, p1, s2, a2, b2, p2, hv, h1, h2⟩ := h
  exact ⟨s1, a1, b1, p1, s2, a2, b2, p2, hv, Num.other hR h1 ho, Num.other hR h2 ho⟩
def Box8 (W : World) (b : Nat) (c0 c1 c2 c3 c4 c5 c6 c7 : Value) : Prop := W.heap[b]? = some (.cells #[c0, c1, c2, c3, c4, c5, c6, c7] 66 (0, 0))
def ZBox8 (W : World) (b : Nat) : Prop := Box8 W b (.bool false) (.int .u64 0) (.int .u64 0) (.pointer none) (.bool false) (.int .u64 0) (.int .u64 0) (.pointer none)
theorem Box8.of_block {W W' : World} {b : Nat} {c0 c1 c2 c3 c4 c5 c6 c7 : Value} (h : Box8 W b c0 c1 c2 c3 c4 c5 c6 c7) (hb : W'.heap[b]? = W.heap[b]?) : Box8 W' b c0 c1 c2 c3 c4 c5 c6 c7 := hb.trans h
theorem Box8.lt {W : World} {b : Nat} {c0 c1 c2 c3 c4 c5 c6 c7 : Value} (h : Box8 W b c0 c1 c2 c3 c4 c5 c6 c7) : b < W.heap.size := (Array.getElem?_eq_some_iff.1 h).1
theorem Box8.below {W W' : World} {b k : Nat} {c0 c1 c2 c3 c4 c5 c6 c7 : Value} (h : Box8 W b c0 c1 c2 c3 c4 c5 c6 c7) (hb : Below k W W') (hk : W.heap.size ≤ k) : Box8 W' b c0 c1 c2 c3 c4 c5 c6 c7 :=
  h.of_block (hb.block b (Nat.lt_of_lt_of_le h.lt hk))
theorem Box8.cells {W : World} {b : Nat} {c0 c1 c2 c3 c4 c5 c6 c7 : Value} (h : Box8 W b c0 c1 c2 c3 c4 c5 c6 c7) :
    W.cell? ⟨b, 0, none⟩ = some c0 ∧ W.cell? ⟨b, 1, none⟩ = some c1 ∧ W.cell? ⟨b, 2, none⟩ = some c2 ∧ W.cell? ⟨b, 3, none⟩ = some c3 ∧
    W.cell? ⟨b, 4, none⟩ = some c4 ∧ W.cell? ⟨b, 5, none⟩ = some c5 ∧ W.cell? ⟨b, 6, none⟩ = some c6 ∧ W.cell? ⟨b, 7, none⟩ = some c7 := by
  unfold Box8 at h
  simp [World.cell?, h]
theorem Box8.frozen {W : World} {b : Nat} {c0 c1 c2 c3 c4 c5 c6 c7 : Value} (h : Box8 W b c0 c1 c2 c3 c4 c5 c6 c7) (i : Nat) : W.frozen? ⟨b, i, none⟩ = false := by
  unfold Box8 at h
  simp [World.frozen?, h]
theorem Box8.nbox {W : World} {b : Nat} {s : Bool} {c1 c2 c3 c4 c5 c6 c7 : Value} (h : Box8 W b (.bool s) c1 c2 c3 c4 c5 c6 c7) : NBox W b :=
  ⟨_, _, _, h, by decide, fun x hx => ⟨s, by simpa using hx.symm⟩⟩
theorem Box.nbox {W : World} {b : Nat} {s : Bool} {c1 c2 c3 : Value} (h : Box W b (.bool s) c1 c2 c3) : NBox W b :=
  ⟨_, _, _, h, by decide, fun x hx => ⟨s, by simpa using hx.symm⟩⟩
theorem Box8.new (w : World) (c0 c1 c2 c3 c4 c5 c6 c7 : Value) : Box8 (w.alloc (.cells #[c0, c1, c2, c3, c4, c5, c6, c7] 66)) w.heap.size c0 c1 c2 c3 c4 c5 c6 c7 := heap_alloc_new w _
theorem setCell_block {W : World} {b o : Nat} {v : Value} {cs : Array Value} {t : TypeId} (h : W.heap[b]? = some (.cells cs t (0, 0))) : (W.setCell ⟨b, o, none⟩ v).heap[b]? = some (.cells (cs.setIfInBounds o v) t (0, 0)) := by
  simp only [World.setCell, Array.getElem?_modify, if_pos, h]
  rfl
theorem Box8.setLow {W : World} {b : Nat} {c0 c1 c2 c3 c4 c5 c6 c7 : Value} (h : Box8 W b c0 c1 c2 c3 c4 c5 c6 c7) (d0 d1 d2 d3 : Value) :
    Box8 ((((W.setCell ⟨b, 0, none⟩ d0).setCell ⟨b, 1, none⟩ d1).setCell ⟨b, 2, none⟩ d2).setCell ⟨b, 3, none⟩ d3) b d0 d1 d2 d3 c4 c5 c6 c7 := by
  have := setCell_block (o := 3) (v := d3) (setCell_block (o := 2) (v := d2) (setCell_block (o := 1) (v := d1) (setCell_block (o := 0) (v := d0) h)))
  exact this
theorem Box8.setHigh {W : World} {b : Nat} {c0 c1 c2 c3 c4 c5 c6 c7 : Value} (h : Box8 W b c0 c1 c2 c3 c4 c5 c6 c7) (d4 d5 d6 d7 : Value) :
    Box8 ((((W.setCell ⟨b, 4, none⟩ d4).setCell ⟨b, 5, none⟩ d5).setCell ⟨b, 6, none⟩ d6).setCell ⟨b, 7, none⟩ d7) b c0 c1 c2 c3 d4 d5 d6 d7 := by
  have := setCell_block (o := 7) (v := d7) (setCell_block (o := 6) (v := d6) (setCell_block (o := 5) (v := d5) (setCell_block (o := 4) (v := d4) h)))
  exact this
theorem only4 (W : World) (b i : Nat) (d0 d1 d2 d3 : Value) : Only b W ((((W.setCell ⟨b, i, none⟩ d0).setCell ⟨b, i + 1, none⟩ d1).setCell ⟨b, i + 2, none⟩ d2).setCell ⟨b, i + 3, none⟩ d3) :=
  ((((Only.refl b W).set i d0).set (i + 1) d1).set (i + 2) d2).set (i + 3) d3
theorem only8 (W : World) (b : Nat) (d0 d1 d2 d3 d4 d5 d6 d7 : Value) : Only b W ((((((((W.setCell ⟨b, 0, none⟩ d0).setCell ⟨b, 1, none⟩ d1).setCell ⟨b, 2, none⟩ d2).setCell ⟨b, 3, none⟩ d3).setCell ⟨b, 4, none⟩ d4).setCell ⟨b, 5, none⟩ d5).setCell ⟨b, 6, none⟩ d6).setCell ⟨b, 7, none⟩ d7) :=
  ((((((((Only.refl b W).set 0 d0).set 1 d1).set 2 d2).set 3 d3).set 4 d4).set 5 d5).set 6 d6).set 7 d7
theorem SpNew.stored {w W : World} {R : Nat} {v : Value} {lo hi : Rat} (hR : NBox W R) (h : IsS W v lo hi) (hb : Below w.heap.size w W) (hw : w.heap.size ≤ R) (d0 d1 d2 d3 d4 d5 d6 d7 : Value) :
    SpNew w lo hi (.returned v) ((((((((W.setCell ⟨R, 0, none⟩ d0).setCell ⟨R, 1, none⟩ d1).setCell ⟨R, 2, none⟩ d2).setCell ⟨R, 3, none⟩ d3).setCell ⟨R, 4, none⟩ d4).setCell ⟨R, 5, none⟩ d5).setCell ⟨R, 6, none⟩ d6).setCell ⟨R, 7, none⟩ d7) :=
  ⟨v, rfl, h.other hR (only8 W R d0 d1 d2 d3 d4 d5 d6 d7), hb.trans ((only8 W R d0 d1 d2 d3 d4 d5 d6 d7).below hw)⟩
def QAt (w : World) (b i : Nat) (v : Value) : Prop := ∃ s a c p, v = .agg #[.bool s, u a, u c, .pointer p] ∧
  w.cell? ⟨b, i, none⟩ = some (.bool s) ∧ w.cell? ⟨b, i + 1, none⟩ = some (u a) ∧ w.cell? ⟨b, i + 2, none⟩ = some (u c) ∧ w.cell? ⟨b, i + 3, none⟩ = some (.pointer p)
theorem QAt.lt {w : World} {b i : Nat} {v : Value} (h : QAt w b i v) : b < w.heap.size := by
  obtain ⟨_, _, _, _, _, h, _⟩ := h
  exact World.block_lt_of_cell? w _ h
theorem QAt.below {w w' : World} {b i k : Nat} {v : Value} (h : QAt w b i v) (hb : Below k w w') (hk : w.heap.size ≤ k) : QAt w' b i v := by
  have hlt := Nat.lt_of_lt_of_le h.lt hk
  obtain ⟨s, a, c, p, hv, h0, h1, h2, h3⟩ := h
  exact ⟨s, a, c, p, hv, (hb.cell (p := ⟨b, i, none⟩) hlt).trans h0, (hb.cell (p := ⟨b, i + 1, none⟩) hlt).trans h1, (hb.cell (p := ⟨b, i + 2, none⟩) hlt).trans h2, (hb.cell (p := ⟨b, i + 3, none⟩) hlt).trans h3⟩
def QSl (w : World) (v : Value) (rs : List Rat) : Prop := ∃ ao cap, v = .slice ao rs.length cap ∧ rs.length ≤ cap ∧ (cap : Int) ≤ 9223372036854775807 ∧
  (0 < rs.length → ∃ b off, ao = some ⟨b, off, none⟩ ∧ ∀ i, i < rs.length → ∃ x, QAt w b (off + i * 4) x ∧ IsQ w x (rs[i]?.getD 0))
theorem QSl.below {w w' : World} {v : Value} {rs : List Rat} {k : Nat} (h : QSl w v rs) (hb : Below k w w') (hk : w.heap.size ≤ k) : QSl w' v rs := by
  obtain ⟨ao, cap, hv, h1, h2, h3⟩ := h
  refine ⟨ao, cap, hv, h1, h2, fun hn => ?_⟩
  obtain ⟨b, off, ha, h4⟩ := h3 hn
  refine ⟨b, off, ha, fun i hi => ?_⟩
  obtain ⟨x, hx, hq⟩ := h4 i hi
  exact ⟨x, hx.below hb hk, hq.below hb hk⟩
def lowOf (r : Rat) (rs : List Rat) : Rat := rs.foldl (fun a x => if x < a then x else a) r
def highOf (r : Rat) (rs : List Rat) : Rat := rs.foldl (fun a x => if a < x then x else a) r
theorem lowOf_snoc (r : Rat) (rs : List Rat) (x : Rat) : lowOf r (rs ++ [x]) = if x < lowOf r rs then x else lowOf r rs := by unfold lowOf; rw [List.foldl_append]; rfl
theorem highOf_snoc (r : Rat) (rs : List Rat) (x : Rat) : highOf r (rs ++ [x]) = if highOf r rs < x then x else highOf r rs := by unfold highOf; rw [List.foldl_append]; rfl
theorem lowOf_mem (r : Rat) (rs : List Rat) : lowOf r rs = r ∨ lowOf r rs ∈ rs := by
  induction rs generalizing r with
  | nil => exact .inl rfl
  | cons x rs ih =>
    show lowOf (if x < r then x else r) rs = r ∨ _
    rcases ih (if x < r then x else r) with h | h
    · rw [show lowOf r (x :: rs) = lowOf (if x < r then x else r) rs from rfl, h]
      split
      · exact .inr (by simp)
      · exact .inl rfl
    · exact .inr (List.mem_cons_of_mem _ h)
theorem highOf_mem (r : Rat) (rs : List Rat) : highOf r rs = r ∨ highOf r rs ∈ rs := by
  induction rs generalizing r with
  | nil => exact .inl rfl
  | cons x rs ih =>
    show highOf (if r < x then x else r) rs = r ∨ _
    rcases ih (if r < x then x else r) with h | h
    · rw [show highOf r (x :: rs) = highOf (if r < x then x else r) rs from rfl, h]
      split
      · exact .inr (by simp)
      · exact .inl rfl
    · exact .inr (List.mem_cons_of_mem _ h)
open Go Go.RowKit Go.Proofs Lim
theorem not_lt_of_lt {a b : Rat} (h : a < b) : ¬ b < a := Rat.not_lt.2 (Rat.le_of_lt h)
def ArRel (w : World) (n0 : Nat) (r : Rat) (rs : List Rat) (i : Value) (wr : World) : Prop :=
  ∃ k s1 a1 b1 p1 s2 a2 b2 p2, i = .int .i64 ((k : Nat) : Int) ∧ k ≤ rs.length ∧ Box8 wr (n0 + 1 + 1) (.bool s1) (u a1) (u b1) (.pointer p1) (.bool s2) (u a2) (u b2) (.pointer p2) ∧
    IsQ w (.agg #[.bool s1, u a1, u b1, .pointer p1]) (lowOf r (rs.take k)) ∧ IsQ w (.agg #[.bool s2, u a2, u b2, .pointer p2]) (highOf r (rs.take k)) ∧
    ZBox8 wr (n0 + 1) ∧ Below w.heap.size w wr
set_option maxHeartbeats 1000000 in
theorem around_any (v sl : Value) (r : Rat) (rs : List Rat) (k : Nat) (w : World) (h : IsQ w v r) (hs : QSl w sl rs) (z : Siz r k) (zs : ∀ x ∈ rs, Siz x k) (hk : (k : Int) ≤ 1073741824) (hl : (rs.length : Int) ≤ 1048576) :
    Calls Tryz.prog 105 #[v, sl] w (SpNew w (lowOf r rs) (highOf r rs)) := by
  have HQ := Lib.hid h
  have hzl : ∀ j, Siz (lowOf r (rs.take j)) k := fun j => by
    rcases lowOf_mem r (rs.take j) with e | e
    · rw [e]; exact z
    · exact zs _ (List.mem_of_mem_take e)
  have hzh : ∀ j, Siz (highOf r (rs.take j)) k := fun j => by
    rcases highOf_mem r (rs.take j) with e | e
    · rw [e]; exact z
    · exact zs _ (List.mem_of_mem_take e)
  have HZL := Lib.hid hzl
  have HZH := Lib.hid hzh
  have HZS := Lib.hid zs
  obtain ⟨s0, a0, b0, p0, rfl⟩ := h.form
  obtain ⟨ao, cap, rfl, hc1, hc2, hr⟩ := hs
  have HR := Lib.hid hr
  clear h hr hzl hzh zs z
  go_enter Tryz.func105, Tryz.ntmps105
  go_wp2_with fail
  have hb1 := below1 w (.cells #[.bool s0, u a0, u b0, .pointer p0] 26)
  have hz1 := Box8.new (w.alloc (.cells #[.bool s0, u a0, u b0, .pointer p0] 26)) (.bool false) (.int .u64 0) (.int .u64 0) (.pointer none) (.bool false) (.int .u64 0) (.int .u64 0) (.pointer none)
  have hs1 : (w.alloc (.cells #[.bool s0, u a0, u b0, .pointer p0] 26)).heap.size = w.heap.size + 1 := World.size_alloc ..
  rw [hs1] at hz1
  have hb2 := below1 (w.alloc (.cells #[.bool s0, u a0, u b0, .pointer p0] 26)) (.cells #[.bool false, .int .u64 0, .int .u64 0, .pointer none, .bool false, .int .u64 0, .int .u64 0, .pointer none] 66)
  have hs2 : ((w.alloc (.cells #[.bool s0, u a0, u b0, .pointer p0] 26)).alloc (.cells #[.bool false, .int .u64 0, .int .u64 0, .pointer none, .bool false, .int .u64 0, .int .u64 0, .pointer none] 66)).heap.size = w.heap.size + 1 + 1 := by rw [World.size_alloc, hs1]
  have hb12 := chain1 hb1 hb2
  obtain ⟨W1, hW1⟩ : ∃ W1, (w.alloc (.cells #[.bool s0, u a0, u b0, .pointer p0] 26)).alloc (.cells #[.bool false, .int .u64 0, .int .u64 0, .pointer none, .bool false, .int .u64 0, .int .u64 0, .pointer none] 66) = W1 := ⟨_, rfl⟩
  rw [hW1] at hz1 hs2 hb12 ⊢
  have hb3 := below1 W1 (.cells #[.bool s0, u a0, u b0, .pointer p0, .bool s0, u a0, u b0, .pointer p0] 66)
  have hx := Box8.new W1 (.bool s0) (u a0) (u b0) (.pointer p0) (.bool s0) (u a0) (u b0) (.pointer p0)
  rw [hs2] at hx
  have H0 : Hid (ArRel w w.heap.size r rs (.int .i64 0) (W1.alloc (.cells #[.bool s0, u a0, u b0, .pointer p0, .bool s0, u a0, u b0, .pointer p0] 66))) := by
    refine ⟨0, s0, a0, b0, p0, s0, a0, b0, p0, rfl, Nat.zero_le _, hx, HQ.out, HQ.out, ?_, chain1 hb12 hb3⟩
    exact Box8.below hz1 hb3 (Nat.le_refl _)
  clear hW1 hb1 hb2 hb3 hb12 hz1 hs1 hs2 hx
  generalize W1.alloc (.cells #[.bool s0, u a0, u b0, .pointer p0, .bool s0, u a0, u b0, .pointer p0] 66) = W2 at *
  go_loopw [13] (fun i wr => Hid (ArRel w w.heap.size r rs i wr)) (fun i _ => rs.length - (intOf i).toNat)
  case atStart => exact H0
  case round =>
    clear H0 HQ
    obtain ⟨j, s1, a1, b1, p1, s2, a2, b2, p2, rfl, hj, hX, hQ1, hQ2, hZ, hB⟩ := hrel.out
    clear hrel
    by_cases hlt : j < rs.length
    · obtain ⟨b, off, rfl, hel⟩ := HR.out (by omega)
      obtain ⟨x, hxat, hxq⟩ := hel j hlt
      have hsn : rs.take (j + 1) = rs.take j ++ [rs[j]?.getD 0] := by
        rw [List.take_succ_eq_append_getElem hlt, List.getElem?_eq_getElem hlt]; rfl
      have hzx := HZS.out (rs[j]?.getD 0) (by rw [List.getElem?_eq_getElem hlt]; exact List.getElem_mem hlt)
      have e1 := lowOf_snoc r (rs.take j) (rs[j]?.getD 0)
      have e2 := highOf_snoc r (rs.take j) (rs[j]?.getD 0)
      rw [← hsn] at e1 e2
      have zl := HZL.out j
      have zh := HZH.out j
      generalize rs[j]?.getD 0 = t at *
      have hxw := hxat.below hB (Nat.le_refl _)
      obtain ⟨sx, ax, bx, px, rfl, k0, k1, k2, k3⟩ := hxw
      have HC := Lib.hid (fun s a b p m W (hm : IsQ w (.agg #[.bool s, u a, u b, .pointer p]) m) (zm : Siz m k) (hW : Below w.heap.size w W) => cmp_q _ _ t m k W (hxq.below hW (Nat.le_refl _)) (hm.below hW (Nat.le_refl _)) hzx zm hk)
      have HX := Lib.hid hX
      have HZ := Lib.hid hZ
      have HB := Lib.hid hB
      have HQ1 := Lib.hid hQ1
      have HQ2 := Lib.hid hQ2
      have HQx := Lib.hid hxq
      have E1 := Lib.hid e1
      have E2 := Lib.hid e2
      have Zl := Lib.hid zl
      have Zh := Lib.hid zh
      clear hX hZ hB hQ1 hQ2 hxat hxq e1 e2 zl zh hzx hsn hel HR HZL HZH HZS
      generalize lowOf r (rs.take j) = lo at *
      generalize highOf r (rs.take j) = hi at *
      obtain ⟨c0, c1, c2, c3, c4, c5, c6, c7⟩ := HX.out.cells
      have ltz : w.heap.size + 1 + 1 < wr.heap.size := HX.out.lt
      go_wp2_with fail
      obtain ⟨W3, hW, hb, ⟨g0, g1, g2, g3⟩⟩ := box1 wr (.bool sx) (u ax) (u bx) (.pointer px); rw [← hW]; clear hW
      have HX := Lib.hid (HX.out.below hb (Nat.le_refl _))
      have HZ := Lib.hid (Box8.below HZ.out hb (Nat.le_refl _))
      have HB := Lib.hid (chain1 HB.out hb)
      have m1 : ¬ wr.heap.size = w.heap.size + 1 + 1 := by omega
      have m2 : ¬ w.heap.size + 1 + 1 = wr.heap.size := by omega
      have n5 : w.heap.size + 1 ≠ w.heap.size + 1 + 1 := by omega
      clear c0 c1 c2 c3 c4 c5 c6 c7
      clear hb ltz k0 k1 k2 k3
      generalize wr.heap.size = bX at *
      refine (HC.out s1 a1 b1 p1 lo W3 HQ1.out Zl.out HB.out).mono ?_
      rintro e W4 ⟨rfl, hb⟩
      (have hh := boxq (b := bX) hb g0 g1 g2 g3; clear g0 g1 g2 g3; obtain ⟨g0, g1, g2, g3⟩ := hh)
      have HX := Lib.hid (HX.out.below hb (Nat.le_refl _))
      have HZ := Lib.hid (Box8.below HZ.out hb (Nat.le_refl _))
      have HB := Lib.hid (chain1 HB.out hb)
      clear hb
      obtain ⟨c0, c1, c2, c3, c4, c5, c6, c7⟩ := HX.out.cells
      have zf0 := HX.out.frozen 0
      have zf1 := HX.out.frozen 1
      have zf2 := HX.out.frozen 2
      have zf3 := HX.out.frozen 3
      have zf4 := HX.out.frozen 4
      have zf5 := HX.out.frozen 5
      have zf6 := HX.out.frozen 6
      have zf7 := HX.out.frozen 7
      by_cases hcl : t < lo
      · have hcn : cmpQ t lo < 0 := by unfold cmpQ; rw [if_pos hcl]; decide
        have H1 := Lib.hid hcl
        clear hcl
        generalize cmpQ t lo = c at *
        go_wp2_with fail
        have hX' := HX.out.setLow (.bool sx) (u ax) (u bx) (.pointer px)
        have hO' := only4 W4 (w.heap.size + 1 + 1) 0 (.bool sx) (u ax) (u bx) (.pointer px)
        have hZ' : ZBox8 _ (w.heap.size + 1) := Box8.of_block HZ.out (hO'.block (w.heap.size + 1) n5)
        have hB' := HB.out.trans (hO'.below (show w.heap.size ≤ w.heap.size + 1 + 1 by omega))
        have i0 := (hO'.cell (p := ⟨bX, 0, none⟩) m1).trans g0
        have i1 := (hO'.cell (p := ⟨bX, 1, none⟩) m1).trans g1
        have i2 := (hO'.cell (p := ⟨bX, 2, none⟩) m1).trans g2
        have i3 := (hO'.cell (p := ⟨bX, 3, none⟩) m1).trans g3
        clear g0 g1 g2 g3 HX HZ HB hO'
        clear c0 c1 c2 c3 c4 c5 c6 c7
        clear zf0 zf1 zf2 zf3 zf4 zf5 zf6 zf7
        obtain ⟨W5, hW5⟩ : ∃ W5, (((W4.setCell ⟨w.heap.size + 1 + 1, 0, none⟩ (.bool sx)).setCell ⟨w.heap.size + 1 + 1, 1, none⟩ (u ax)).setCell ⟨w.heap.size + 1 + 1, 2, none⟩ (u bx)).setCell ⟨w.heap.size + 1 + 1, 3, none⟩ (.pointer px) = W5 := ⟨_, rfl⟩
        simp only [Nat.zero_add] at hZ' hB' i0 i1 i2 i3
        rw [hW5] at hX' hZ' hB' i0 i1 i2 i3 ⊢
        have HX := Lib.hid hX'
        have HZ := Lib.hid hZ'
        have HB := Lib.hid hB'
        have g0 := i0
        have g1 := i1
        have g2 := i2
        have g3 := i3
        clear hX' hZ' hB' hW5 i0 i1 i2 i3
        refine (HC.out s2 a2 b2 p2 hi W5 HQ2.out Zh.out HB.out).mono ?_
        rintro e W6 ⟨rfl, hb⟩
        (have hh := boxq (b := bX) hb g0 g1 g2 g3; clear g0 g1 g2 g3; obtain ⟨g0, g1, g2, g3⟩ := hh)
        have HX := Lib.hid (HX.out.below hb (Nat.le_refl _))
        have HZ := Lib.hid (Box8.below HZ.out hb (Nat.le_refl _))
        have HB := Lib.hid (chain1 HB.out hb)
        clear hb HC
        obtain ⟨c0, c1, c2, c3, c4, c5, c6, c7⟩ := HX.out.cells
        have zf0 := HX.out.frozen 0
        have zf1 := HX.out.frozen 1
        have zf2 := HX.out.frozen 2
        have zf3 := HX.out.frozen 3
        have zf4 := HX.out.frozen 4
        have zf5 := HX.out.frozen 5
        have zf6 := HX.out.frozen 6
        have zf7 := HX.out.frozen 7
        by_cases hch : hi < t
        · have hcn : (0 : Int) < cmpQ t hi := by unfold cmpQ; rw [if_neg (not_lt_of_lt hch), if_pos hch]; decide
          have H2 := Lib.hid hch
          have HX' := Lib.hid (HX.out.setHigh (.bool sx) (u ax) (u bx) (.pointer px))
          have HZ' := Lib.hid (Box8.of_block HZ.out ((only4 W6 (w.heap.size + 1 + 1) 4 (.bool sx) (u ax) (u bx) (.pointer px)).block (w.heap.size + 1) n5))
          have HB' := Lib.hid (HB.out.trans ((only4 W6 (w.heap.size + 1 + 1) 4 (.bool sx) (u ax) (u bx) (.pointer px)).below (by omega)))
          clear HX HZ HB hch
          have HX := HX'
          have HZ := HZ'
          have HB := HB'
          clear HX' HZ' HB'
          generalize cmpQ t hi = cc at *
          go_wp2_with fail
          go_roundw
          case rel => exact ⟨j + 1, sx, ax, bx, px, sx, ax, bx, px, by go_num, by omega, HX.out, by rw [E1.out, if_pos H1.out]; exact HQx.out, by rw [E2.out, if_pos H2.out]; exact HQx.out, HZ.out, HB.out⟩
          case measure => simp [intOf]; omega
        · have hcn : ¬ (0 : Int) < cmpQ t hi := by unfold cmpQ; rw [if_neg hch]; split <;> decide
          have H2 := Lib.hid hch
          clear hch
          generalize cmpQ t hi = cc at *
          go_wp2_with fail
          go_roundw
          case rel => exact ⟨j + 1, sx, ax, bx, px, s2, a2, b2, p2, by go_num, by omega, HX.out, by rw [E1.out, if_pos H1.out]; exact HQx.out, by rw [E2.out, if_neg H2.out]; exact HQ2.out, HZ.out, HB.out⟩
          case measure => simp [intOf]; omega
      · have hcn : ¬ cmpQ t lo < 0 := by unfold cmpQ; rw [if_neg hcl]; split <;> decide
        have H1 := Lib.hid hcl
        clear hcl
        generalize cmpQ t lo = c at *
        go_wp2_with fail
        clear c0 c1 c2 c3 c4 c5 c6 c7
        clear zf0 zf1 zf2 zf3 zf4 zf5 zf6 zf7
        refine (HC.out s2 a2 b2 p2 hi W4 HQ2.out Zh.out HB.out).mono ?_
        rintro e W6 ⟨rfl, hb⟩
        (have hh := boxq (b := bX) hb g0 g1 g2 g3; clear g0 g1 g2 g3; obtain ⟨g0, g1, g2, g3⟩ := hh)
        have HX := Lib.hid (HX.out.below hb (Nat.le_refl _))
        have HZ := Lib.hid (Box8.below HZ.out hb (Nat.le_refl _))
        have HB := Lib.hid (chain1 HB.out hb)
        clear hb HC
        obtain ⟨c0, c1, c2, c3, c4, c5, c6, c7⟩ := HX.out.cells
        have zf0 := HX.out.frozen 0
        have zf1 := HX.out.frozen 1
        have zf2 := HX.out.frozen 2
        have zf3 := HX.out.frozen 3
        have zf4 := HX.out.frozen 4
        have zf5 := HX.out.frozen 5
        have zf6 := HX.out.frozen 6
        have zf7 := HX.out.frozen 7
        by_cases hch : hi < t
        · have hcn : (0 : Int) < cmpQ t hi := by unfold cmpQ; rw [if_neg (not_lt_of_lt hch), if_pos hch]; decide
          have H2 := Lib.hid hch
          have HX' := Lib.hid (HX.out.setHigh (.bool sx) (u ax) (u bx) (.pointer px))
          have HZ' := Lib.hid (Box8.of_block HZ.out ((only4 W6 (w.heap.size + 1 + 1) 4 (.bool sx) (u ax) (u bx) (.pointer px)).block (w.heap.size + 1) n5))
          have HB' := Lib.hid (HB.out.trans ((only4 W6 (w.heap.size + 1 + 1) 4 (.bool sx) (u ax) (u bx) (.pointer px)).below (by omega)))
          clear HX HZ HB hch
          have HX := HX'
          have HZ := HZ'
          have HB := HB'
          clear HX' HZ' HB'
          generalize cmpQ t hi = cc at *
          go_wp2_with fail
          go_roundw
          case rel => exact ⟨j + 1, s1, a1, b1, p1, sx, ax, bx, px, by go_num, by omega, HX.out, by rw [E1.out, if_neg H1.out]; exact HQ1.out, by rw [E2.out, if_pos H2.out]; exact HQx.out, HZ.out, HB.out⟩
          case measure => simp [intOf]; omega
        · have hcn : ¬ (0 : Int) < cmpQ t hi := by unfold cmpQ; rw [if_neg hch]; split <;> decide
          have H2 := Lib.hid hch
          clear hch
          generalize cmpQ t hi = cc at *
          go_wp2_with fail
          go_roundw
          case rel => exact ⟨j + 1, s1, a1, b1, p1, s2, a2, b2, p2, by go_num, by omega, HX.out, by rw [E1.out, if_neg H1.out]; exact HQ1.out, by rw [E2.out, if_neg H2.out]; exact HQ2.out, HZ.out, HB.out⟩
          case measure => simp [intOf]; omega
    · obtain rfl : j = rs.length := by omega
      have hS : IsS w (.agg #[.bool s1, u a1, u b1, .pointer p1, .bool s2, u a2, u b2, .pointer p2]) (lowOf r rs) (highOf r rs) := by
        rw [List.take_length] at hQ1 hQ2
        exact ⟨s1, a1, b1, p1, s2, a2, b2, p2, rfl, hQ1, hQ2⟩
      have hfin := SpNew.stored (Box8.nbox hZ) (hS.below hB (Nat.le_refl _)) hB (show w.heap.size ≤ w.heap.size + 1 by omega) (.bool s1) (u a1) (u b1) (.pointer p1) (.bool s2) (u a2) (u b2) (.pointer p2)
      have HFin := Lib.hid hfin
      obtain ⟨c0, c1, c2, c3, c4, c5, c6, c7⟩ := hX.cells
      obtain ⟨z0, z1, z2, z3, z4, z5, z6, z7⟩ := Box8.cells hZ
      have zf0 := Box8.frozen hZ 0
      have zf1 := Box8.frozen hZ 1
      have zf2 := Box8.frozen hZ 2
      have zf3 := Box8.frozen hZ 3
      have zf4 := Box8.frozen hZ 4
      have zf5 := Box8.frozen hZ 5
      have zf6 := Box8.frozen hZ 6
      have zf7 := Box8.frozen hZ 7
      have n6 : ¬ w.heap.size + 1 = w.heap.size + 1 + 1 := by omega
      have n7 : ¬ w.heap.size + 1 + 1 = w.heap.size + 1 := by omega
      clear hfin hS hQ1 hQ2 hX hZ hB hlt
      go_wp2_with fail
      refine bodyPost_ret (v := .agg #[.bool s1, u a1, u b1, .pointer p1, .bool s2, u a2, u b2, .pointer p2]) (by simp [results, Tryz.results105, go_sem, z0, z1, z2, z3, z4, z5, z6, z7]) rfl ?_
      exact HFin.out
open Go Go.RowKit Go.Proofs Lim
theorem qsl1 (w : World) (s : Bool) (a b : Nat) (p : Option Addr) (r : Rat) (h : IsQ w (.agg #[.bool s, u a, u b, .pointer p]) r) :
    QSl (w.alloc (.cells #[.bool s, u a, u b, .pointer p] 26)) (.slice (some ⟨w.heap.size, 0, none⟩) 1 1) [r] := by
  have hb := below1 w (.cells #[.bool s, u a, u b, .pointer p] 26)
  refine ⟨_, 1, rfl, Nat.le_refl _, by decide, fun _ => ⟨w.heap.size, 0, rfl, fun i hi => ?_⟩⟩
  have : i = 0 := by simpa using hi
  subst this
  refine ⟨_, ⟨s, a, b, p, rfl, ?_, ?_, ?_, ?_⟩, h.below hb (Nat.le_refl _)⟩
  all_goals exact World.cell?_alloc_new ..
theorem qsl3 (w : World) (s1 s2 s3 : Bool) (a1 b1 a2 b2 a3 b3 : Nat) (p1 p2 p3 : Option Addr) (r1 r2 r3 : Rat) (h1 : IsQ w (.agg #[.bool s1, u a1, u b1, .pointer p1]) r1)
    (h2 : IsQ w (.agg #[.bool s2, u a2, u b2, .pointer p2]) r2) (h3 : IsQ w (.agg #[.bool s3, u a3, u b3, .pointer p3]) r3) :
    QSl (w.alloc (.cells #[.bool s1, u a1, u b1, .pointer p1, .bool s2, u a2, u b2, .pointer p2, .bool s3, u a3, u b3, .pointer p3] 26)) (.slice (some ⟨w.heap.size, 0, none⟩) 3 3) [r1, r2, r3] := by
  have hb := below1 w (.cells #[.bool s1, u a1, u b1, .pointer p1, .bool s2, u a2, u b2, .pointer p2, .bool s3, u a3, u b3, .pointer p3] 26)
  refine ⟨_, 3, rfl, Nat.le_refl _, by decide, fun _ => ⟨w.heap.size, 0, rfl, fun i hi => ?_⟩⟩
  have hi : i < 3 := hi
  rcases i with _ | _ | _ | i
  · refine ⟨_, ⟨s1, a1, b1, p1, rfl, ?_, ?_, ?_, ?_⟩, h1.below hb (Nat.le_refl _)⟩
    all_goals exact World.cell?_alloc_new ..
  · refine ⟨_, ⟨s2, a2, b2, p2, rfl, ?_, ?_, ?_, ?_⟩, h2.below hb (Nat.le_refl _)⟩
    all_goals exact World.cell?_alloc_new ..
  · refine ⟨_, ⟨s3, a3, b3, p3, rfl, ?_, ?_, ?_, ?_⟩, h3.below hb (Nat.le_refl _)⟩
    all_goals exact World.cell?_alloc_new ..
  · omega
theorem box8z (w : World) (c0 c1 c2 c3 c4 c5 c6 c7 : Value) : ∃ W, (w.alloc (.cells #[c0, c1, c2, c3, c4, c5, c6, c7] 66)).alloc (.cells #[.bool false, .int .u64 0, .int .u64 0, .pointer none, .bool false, .int .u64 0, .int .u64 0, .pointer none] 66) = W ∧
    Below w.heap.size w W ∧ Box8 W w.heap.size c0 c1 c2 c3 c4 c5 c6 c7 ∧ ZBox8 W (w.heap.size + 1) ∧ W.heap.size = w.heap.size + 1 + 1 := by
  have hb1 := below1 w (.cells #[c0, c1, c2, c3, c4, c5, c6, c7] 66)
  have h1 := Box8.new w c0 c1 c2 c3 c4 c5 c6 c7
  have hs1 : (w.alloc (.cells #[c0, c1, c2, c3, c4, c5, c6, c7] 66)).heap.size = w.heap.size + 1 := World.size_alloc ..
  generalize w.alloc (.cells #[c0, c1, c2, c3, c4, c5, c6, c7] 66) = W1 at *
  have hb2 := below1 W1 (.cells #[.bool false, .int .u64 0, .int .u64 0, .pointer none, .bool false, .int .u64 0, .int .u64 0, .pointer none] 66)
  have h2 := Box8.new W1 (.bool false) (.int .u64 0) (.int .u64 0) (.pointer none) (.bool false) (.int .u64 0) (.int .u64 0) (.pointer none)
  rw [hs1] at h2
  exact ⟨_, rfl, chain1 hb1 hb2, h1.below hb2 (Nat.le_refl _), h2, by rw [World.size_alloc, hs1]⟩
theorem sorted_any (v : Value) (lo hi : Rat) (k : Nat) (w : World) (h : IsS w v lo hi) (z1 : Siz lo k) (z2 : Siz hi k) (hk : (k : Int) ≤ 1073741824) :
    Calls Tryz.prog 108 #[v] w (SpNew w (lowOf lo [hi]) (highOf lo [hi])) := by
  obtain ⟨s1, a1, b1, p1, s2, a2, b2, p2, rfl, h1, h2⟩ := h
  have HA := Lib.hid (fun sl W (hW : Below w.heap.size w W) (hs : QSl W sl [hi]) => around_any _ sl lo [hi] k W (h1.below hW (Nat.le_refl _)) hs z1 (by intro x hx; simp at hx; subst hx; exact z2) hk (by simp))
  have H2 := Lib.hid h2
  clear h1 h2 z1 z2 hk
  go_enter Tryz.func108, Tryz.ntmps108
  go_wp2_with fail
  obtain ⟨W0, hW0, hb0, _, hz, hs⟩ := box8z w (.bool s1) (u a1) (u b1) (.pointer p1) (.bool s2) (u a2) (u b2) (.pointer p2)
  rw [hW0]
  have hb1 := below1 W0 (.cells #[.bool s2, u a2, u b2, .pointer p2] 26)
  have hq := qsl1 W0 s2 a2 b2 p2 hi (H2.out.below hb0 (Nat.le_refl _))
  rw [hs] at hq
  refine (HA.out _ _ (chain1 hb0 hb1) hq).mono ?_
  rintro e W9 ⟨v, rfl, hv, hb⟩
  have hb9 := chain1 (chain1 hb0 hb1) hb
  have hz9 : ZBox8 W9 (w.heap.size + 1) := Box8.below (Box8.below hz hb1 (Nat.le_refl _)) hb (Nat.le_refl _)
  have HB9 := Lib.hid hb9
  clear hb0 hb1 hq hz hs hW0 hb9 HA
  (have hv' := hv; obtain ⟨t1, d1, e1, q1, t2, d2, e2, q2, rfl, _, _⟩ := hv'; have HFin := Lib.hid (SpNew.stored (Box8.nbox hz9) hv HB9.out (by omega) (.bool t1) (u d1) (u e1) (.pointer q1) (.bool t2) (u d2) (u e2) (.pointer q2)); (obtain ⟨z0, z1, z2, z3, z4, z5, z6, z7⟩ := Box8.cells hz9; have zf0 := Box8.frozen hz9 0; have zf1 := Box8.frozen hz9 1; have zf2 := Box8.frozen hz9 2; have zf3 := Box8.frozen hz9 3; have zf4 := Box8.frozen hz9 4; have zf5 := Box8.frozen hz9 5; have zf6 := Box8.frozen hz9 6; have zf7 := Box8.frozen hz9 7); clear hv hz9; clear hb; go_wp2_with fail; refine bodyPost_ret (v := .agg #[.bool t1, u d1, u e1, .pointer q1, .bool t2, u d2, u e2, .pointer q2]) (by simp [results, Tryz.results108, go_sem, z0, z1, z2, z3, z4, z5, z6, z7]) rfl ?_; exact HFin.out)
theorem between_any (v1 v2 : Value) (r s : Rat) (k : Nat) (w : World) (h1 : IsQ w v1 r) (h2 : IsQ w v2 s) (z1 : Siz r k) (z2 : Siz s k) (hk : (k : Int) ≤ 1073741824) :
    Calls Tryz.prog 55 #[v1, v2] w (SpNew w (lowOf r [s]) (highOf r [s])) := by
  have HA := Lib.hid (fun sl W (hW : Below w.heap.size w W) (hs : QSl W sl [s]) => around_any v1 sl r [s] k W (h1.below hW (Nat.le_refl _)) hs z1 (by intro x hx; simp at hx; subst hx; exact z2) hk (by simp))
  have H2 := Lib.hid h2
  obtain ⟨s1, a1, b1, p1, rfl⟩ := h1.form
  obtain ⟨s2, a2, b2, p2, rfl⟩ := h2.form
  clear h1 h2 z1 z2 hk
  go_enter Tryz.func55, Tryz.ntmps55
  go_wp2_with fail
  obtain ⟨W1, hW1, hb1, _, _⟩ := box2 w (.bool s1) (u a1) (u b1) (.pointer p1) (.bool s2) (u a2) (u b2) (.pointer p2)
  have hs1 : W1.heap.size = w.heap.size + 1 + 1 := by rw [hW1, World.size_alloc, World.size_alloc]
  rw [← hW1]
  have hb2 := below1 W1 (.cells #[.bool false, .int .u64 0, .int .u64 0, .pointer none, .bool false, .int .u64 0, .int .u64 0, .pointer none] 66)
  have hz := Box8.new W1 (.bool false) (.int .u64 0) (.int .u64 0) (.pointer none) (.bool false) (.int .u64 0) (.int .u64 0) (.pointer none)
  have hs2 : (W1.alloc (.cells #[.bool false, .int .u64 0, .int .u64 0, .pointer none, .bool false, .int .u64 0, .int .u64 0, .pointer none] 66)).heap.size = w.heap.size + 1 + 1 + 1 := by rw [World.size_alloc, hs1]
  rw [hs1] at hz
  have hb0 := chain1 hb1 hb2
  clear hb1 hb2 hW1
  generalize W1.alloc (.cells #[.bool false, .int .u64 0, .int .u64 0, .pointer none, .bool false, .int .u64 0, .int .u64 0, .pointer none] 66) = W0 at *
  have hb1 := below1 W0 (.cells #[.bool s2, u a2, u b2, .pointer p2] 26)
  have hq := qsl1 W0 s2 a2 b2 p2 s (H2.out.below hb0 (Nat.le_refl _))
  rw [hs2] at hq
  refine (HA.out _ _ (chain1 hb0 hb1) hq).mono ?_
  rintro e W9 ⟨v, rfl, hv, hb⟩
  have hb9 := chain1 (chain1 hb0 hb1) hb
  have hz9 : ZBox8 W9 (w.heap.size + 1 + 1) := Box8.below (Box8.below hz hb1 (Nat.le_refl _)) hb (Nat.le_refl _)
  have HB9 := Lib.hid hb9
  clear hb0 hb1 hq hz hs2 hs1 hb9 HA
  (have hv' := hv; obtain ⟨t1, d1, e1, q1, t2, d2, e2, q2, rfl, _, _⟩ := hv'; have HFin := Lib.hid (SpNew.stored (Box8.nbox hz9) hv HB9.out (by omega) (.bool t1) (u d1) (u e1) (.pointer q1) (.bool t2) (u d2) (u e2) (.pointer q2)); (obtain ⟨z0, z1, z2, z3, z4, z5, z6, z7⟩ := Box8.cells hz9; have zf0 := Box8.frozen hz9 0; have zf1 := Box8.frozen hz9 1; have zf2 := Box8.frozen hz9 2; have zf3 := Box8.frozen hz9 3; have zf4 := Box8.frozen hz9 4; have zf5 := Box8.frozen hz9 5; have zf6 := Box8.frozen hz9 6; have zf7 := Box8.frozen hz9 7); clear hv hz9; clear hb; go_wp2_with fail; refine bodyPost_ret (v := .agg #[.bool t1, u d1, u e1, .pointer q1, .bool t2, u d2, u e2, .pointer q2]) (by simp [results, Tryz.results55, go_sem, z0, z1, z2, z3, z4, z5, z6, z7]) rfl ?_; exact HFin.out)
theorem box88z (w : World) (c0 c1 c2 c3 c4 c5 c6 c7 d0 d1 d2 d3 d4 d5 d6 d7 : Value) : ∃ W, ((w.alloc (.cells #[c0, c1, c2, c3, c4, c5, c6, c7] 66)).alloc (.cells #[d0, d1, d2, d3, d4, d5, d6, d7] 66)).alloc (.cells #[.bool false, .int .u64 0, .int .u64 0, .pointer none, .bool false, .int .u64 0, .int .u64 0, .pointer none] 66) = W ∧
    Below w.heap.size w W ∧ Box8 W w.heap.size c0 c1 c2 c3 c4 c5 c6 c7 ∧ Box8 W (w.heap.size + 1) d0 d1 d2 d3 d4 d5 d6 d7 ∧ ZBox8 W (w.heap.size + 1 + 1) ∧ W.heap.size = w.heap.size + 1 + 1 + 1 := by
  have hb1 := below1 w (.cells #[c0, c1, c2, c3, c4, c5, c6, c7] 66)
  have h1 := Box8.new w c0 c1 c2 c3 c4 c5 c6 c7
  have hs1 : (w.alloc (.cells #[c0, c1, c2, c3, c4, c5, c6, c7] 66)).heap.size = w.heap.size + 1 := World.size_alloc ..
  generalize w.alloc (.cells #[c0, c1, c2, c3, c4, c5, c6, c7] 66) = W1 at *
  obtain ⟨W2, hW2, hb2, h2, h3, hs2⟩ := box8z W1 d0 d1 d2 d3 d4 d5 d6 d7
  rw [hs1] at h2 h3 hs2
  exact ⟨W2, hW2, chain1 hb1 hb2, h1.below hb2 (Nat.le_refl _), h2, h3, hs2⟩
theorem hull_any (v1 v2 : Value) (lo hi lo2 hi2 : Rat) (k : Nat) (w : World) (h1 : IsS w v1 lo hi) (h2 : IsS w v2 lo2 hi2) (z1 : Siz lo k) (z2 : Siz hi k) (z3 : Siz lo2 k) (z4 : Siz hi2 k) (hk : (k : Int) ≤ 1073741824) :
    Calls Tryz.prog 53 #[v1, v2] w (SpNew w (lowOf lo [hi, lo2, hi2]) (highOf lo [hi, lo2, hi2])) := by
  obtain ⟨s1, a1, b1, p1, s2, a2, b2, p2, rfl, h1, h2'⟩ := h1
  obtain ⟨s3, a3, b3, p3, s4, a4, b4, p4, rfl, h3, h4⟩ := h2
  have HA := Lib.hid (fun sl W (hW : Below w.heap.size w W) (hs : QSl W sl [hi, lo2, hi2]) => around_any _ sl lo [hi, lo2, hi2] k W (h1.below hW (Nat.le_refl _)) hs z1 (by intro x hx; simp at hx; rcases hx with rfl | rfl | rfl <;> assumption) hk (by simp))
  have HQ := Lib.hid (And.intro h2' (And.intro h3 h4))
  clear h1 h2' h3 h4 z1 z2 z3 z4 hk
  go_enter Tryz.func53, Tryz.ntmps53
  go_wp2_with fail
  obtain ⟨W0, hW0, hb0, _, _, hz, hs⟩ := box88z w (.bool s1) (u a1) (u b1) (.pointer p1) (.bool s2) (u a2) (u b2) (.pointer p2) (.bool s3) (u a3) (u b3) (.pointer p3) (.bool s4) (u a4) (u b4) (.pointer p4)
  rw [hW0]
  have hb1 := below1 W0 (.cells #[.bool s2, u a2, u b2, .pointer p2, .bool s3, u a3, u b3, .pointer p3, .bool s4, u a4, u b4, .pointer p4] 26)
  have hq := qsl3 W0 s2 s3 s4 a2 b2 a3 b3 a4 b4 p2 p3 p4 hi lo2 hi2 (HQ.out.1.below hb0 (Nat.le_refl _)) (HQ.out.2.1.below hb0 (Nat.le_refl _)) (HQ.out.2.2.below hb0 (Nat.le_refl _))
  rw [hs] at hq
  refine (HA.out _ _ (chain1 hb0 hb1) hq).mono ?_
  rintro e W9 ⟨v, rfl, hv, hb⟩
  have hb9 := chain1 (chain1 hb0 hb1) hb
  have hz9 : ZBox8 W9 (w.heap.size + 1 + 1) := Box8.below (Box8.below hz hb1 (Nat.le_refl _)) hb (Nat.le_refl _)
  have HB9 := Lib.hid hb9
  clear hb0 hb1 hq hz hs hW0 hb9 HA
  (have hv' := hv; obtain ⟨t1, d1, e1, q1, t2, d2, e2, q2, rfl, _, _⟩ := hv'; have HFin := Lib.hid (SpNew.stored (Box8.nbox hz9) hv HB9.out (by omega) (.bool t1) (u d1) (u e1) (.pointer q1) (.bool t2) (u d2) (u e2) (.pointer q2)); (obtain ⟨z0, z1, z2, z3, z4, z5, z6, z7⟩ := Box8.cells hz9; have zf0 := Box8.frozen hz9 0; have zf1 := Box8.frozen hz9 1; have zf2 := Box8.frozen hz9 2; have zf3 := Box8.frozen hz9 3; have zf4 := Box8.frozen hz9 4; have zf5 := Box8.frozen hz9 5; have zf6 := Box8.frozen hz9 6; have zf7 := Box8.frozen hz9 7); clear hv hz9; clear hb; go_wp2_with fail; refine bodyPost_ret (v := .agg #[.bool t1, u d1, u e1, .pointer q1, .bool t2, u d2, u e2, .pointer q2]) (by simp [results, Tryz.results53, go_sem, z0, z1, z2, z3, z4, z5, z6, z7]) rfl ?_; exact HFin.out)
open Go Go.RowKit Go.Proofs Lim
theorem cmpQ_le {r s : Rat} : cmpQ r s ≤ 0 ↔ r ≤ s := by
  unfold cmpQ
  by_cases h1 : r < s
  · rw [if_pos h1]; exact ⟨fun _ => Rat.le_of_lt h1, fun _ => by decide⟩
  · rw [if_neg h1]
    by_cases h2 : s < r
    · rw [if_pos h2]; exact ⟨fun h => absurd h (by decide), fun h => absurd h2 (Rat.not_lt.2 h)⟩
    · rw [if_neg h2]; exact ⟨fun _ => Rat.not_lt.1 h2, fun _ => by decide⟩
theorem lowOf_siz {r : Rat} {rs : List Rat} {k : Nat} (z : Siz r k) (zs : ∀ x ∈ rs, Siz x k) : Siz (lowOf r rs) k := by
  rcases lowOf_mem r rs with e | e
  · rw [e]; exact z
  · exact zs _ e
theorem highOf_siz {r : Rat} {rs : List Rat} {k : Nat} (z : Siz r k) (zs : ∀ x ∈ rs, Siz x k) : Siz (highOf r rs) k := by
  rcases highOf_mem r rs with e | e
  · rw [e]; exact z
  · exact zs _ e
theorem siz1 {s : Rat} {k : Nat} (z : Siz s k) : ∀ x ∈ [s], Siz x k := by intro x hx; simp at hx; subst hx; exact z
theorem Box8.set8 {W : World} {b : Nat} {c0 c1 c2 c3 c4 c5 c6 c7 : Value} (h : Box8 W b c0 c1 c2 c3 c4 c5 c6 c7) (d0 d1 d2 d3 d4 d5 d6 d7 : Value) :
    Box8 ((((((((W.setCell ⟨b, 0, none⟩ d0).setCell ⟨b, 1, none⟩ d1).setCell ⟨b, 2, none⟩ d2).setCell ⟨b, 3, none⟩ d3).setCell ⟨b, 4, none⟩ d4).setCell ⟨b, 5, none⟩ d5).setCell ⟨b, 6, none⟩ d6).setCell ⟨b, 7, none⟩ d7) b d0 d1 d2 d3 d4 d5 d6 d7 :=
  (h.setLow d0 d1 d2 d3).setHigh d4 d5 d6 d7
theorem Only.box {b c : Nat} {w w' : World} {a0 a1 a2 a3 : Value} (h : Only b w w') (hc : ¬ c = b) (h0 : w.cell? ⟨c, 0, none⟩ = some a0) (h1 : w.cell? ⟨c, 1, none⟩ = some a1) (h2 : w.cell? ⟨c, 2, none⟩ = some a2) (h3 : w.cell? ⟨c, 3, none⟩ = some a3) :
    w'.cell? ⟨c, 0, none⟩ = some a0 ∧ w'.cell? ⟨c, 1, none⟩ = some a1 ∧ w'.cell? ⟨c, 2, none⟩ = some a2 ∧ w'.cell? ⟨c, 3, none⟩ = some a3 :=
  ⟨(h.cell (p := ⟨c, 0, none⟩) hc).trans h0, (h.cell (p := ⟨c, 1, none⟩) hc).trans h1, (h.cell (p := ⟨c, 2, none⟩) hc).trans h2, (h.cell (p := ⟨c, 3, none⟩) hc).trans h3⟩
def hasQ (lo hi x : Rat) : Bool := decide (lowOf lo [hi] ≤ x) && decide (x ≤ highOf lo [hi])
theorem has_any (v vx : Value) (lo hi x : Rat) (k : Nat) (w : World) (h : IsS w v lo hi) (hx : IsQ w vx x) (z1 : Siz lo k) (z2 : Siz hi k) (z3 : Siz x k) (hk : (k : Int) ≤ 1073741824) :
    Calls Tryz.prog 56 #[v, vx] w (Val w (.bool (hasQ lo hi x))) := by
  have HS := Lib.hid (fun W (hW : Below w.heap.size w W) => sorted_any v lo hi k W (h.below hW (Nat.le_refl _)) z1 z2 hk)
  have zl := lowOf_siz z1 (siz1 z2)
  have zh := highOf_siz z1 (siz1 z2)
  unfold hasQ
  generalize lowOf lo [hi] = l at *
  generalize highOf lo [hi] = g at *
  have HC1 := Lib.hid (fun v1 W (h1 : IsQ W v1 l) (hW : Below w.heap.size w W) => cmp_q v1 vx l x k W h1 (hx.below hW (Nat.le_refl _)) zl z3 hk)
  have HC2 := Lib.hid (fun v1 W (h1 : IsQ W v1 g) (hW : Below w.heap.size w W) => cmp_q vx v1 x g k W (hx.below hW (Nat.le_refl _)) h1 z3 zh hk)
  obtain ⟨s1, a1, b1, p1, s2, a2, b2, p2, rfl, _, _⟩ := h
  obtain ⟨s3, a3, b3, p3, rfl⟩ := hx.form
  clear hx z1 z2 z3 hk zl zh
  go_enter Tryz.func56, Tryz.ntmps56
  go_wp2_with fail
  have hb1 := below1 w (.cells #[.bool s1, u a1, u b1, .pointer p1, .bool s2, u a2, u b2, .pointer p2] 66)
  have hs1 : (w.alloc (.cells #[.bool s1, u a1, u b1, .pointer p1, .bool s2, u a2, u b2, .pointer p2] 66)).heap.size = w.heap.size + 1 := World.size_alloc ..
  have hB := Box8.new w (.bool s1) (u a1) (u b1) (.pointer p1) (.bool s2) (u a2) (u b2) (.pointer p2)
  obtain ⟨W1, hW1⟩ : ∃ W1, w.alloc (.cells #[.bool s1, u a1, u b1, .pointer p1, .bool s2, u a2, u b2, .pointer p2] 66) = W1 := ⟨_, rfl⟩
  rw [hW1] at hb1 hs1 hB ⊢
  obtain ⟨W0, hW0, hb2, ⟨g0, g1, g2, g3⟩⟩ := box1 W1 (.bool s3) (u a3) (u b3) (.pointer p3)
  rw [← hW0]
  rw [hs1] at g0 g1 g2 g3
  have hB := Box8.below hB hb2 (Nat.le_refl _)
  have hb0 := chain1 hb1 hb2
  have n1 : ¬ w.heap.size = w.heap.size + 1 := by omega
  have n2 : ¬ w.heap.size + 1 = w.heap.size := by omega
  clear hW1 hW0 hb1 hb2 hs1
  refine (HS.out _ hb0).mono ?_
  rintro e W2 ⟨v, rfl, hv, hb⟩
  (have hh := boxq (b := w.heap.size + 1) hb g0 g1 g2 g3; clear g0 g1 g2 g3; obtain ⟨g0, g1, g2, g3⟩ := hh)
  have hB := Box8.below hB hb (Nat.le_refl _)
  have hA := chain1 hb0 hb
  obtain ⟨t1, d1, e1, q1, t2, d2, e2, q2, rfl, h1, h2⟩ := hv
  have ho := only8 W2 w.heap.size (.bool t1) (u d1) (u e1) (.pointer q1) (.bool t2) (u d2) (u e2) (.pointer q2)
  have H1 := Lib.hid (h1.other hB.nbox ho)
  have H2 := Lib.hid (h2.other hB.nbox ho)
  have HA := Lib.hid (hA.trans (ho.below (Nat.le_refl _)))
  have HX := Lib.hid (hB.set8 (.bool t1) (u d1) (u e1) (.pointer q1) (.bool t2) (u d2) (u e2) (.pointer q2))
  have HG := Lib.hid (ho.box n2 g0 g1 g2 g3)
  (obtain ⟨c0, c1, c2, c3, c4, c5, c6, c7⟩ := hB.cells)
  (have cf0 := Box8.frozen hB 0; have cf1 := Box8.frozen hB 1; have cf2 := Box8.frozen hB 2; have cf3 := Box8.frozen hB 3; have cf4 := Box8.frozen hB 4; have cf5 := Box8.frozen hB 5; have cf6 := Box8.frozen hB 6; have cf7 := Box8.frozen hB 7)
  clear hB hb hb0 hA h1 h2 ho HS
  have hn1 : decide (cmpQ l x ≤ 0) = decide (l ≤ x) := by rw [decide_eq_decide]; exact cmpQ_le
  have hn2 : decide (cmpQ x g ≤ 0) = decide (x ≤ g) := by rw [decide_eq_decide]; exact cmpQ_le
  generalize cmpQ l x = m1 at *
  generalize cmpQ x g = m2 at *
  generalize decide (l ≤ x) = r1 at *
  generalize decide (x ≤ g) = r2 at *
  go_wp2_with fail
  clear c0 c1 c2 c3 c4 c5 c6 c7 cf0 cf1 cf2 cf3 cf4 cf5 cf6 cf7 g0 g1 g2 g3
  obtain ⟨WS, hWS⟩ : ∃ WS, (((((((W2.setCell ⟨w.heap.size, 0, none⟩ (.bool t1)).setCell ⟨w.heap.size, 1, none⟩ (u d1)).setCell ⟨w.heap.size, 2, none⟩ (u e1)).setCell ⟨w.heap.size, 3, none⟩ (.pointer q1)).setCell ⟨w.heap.size, 4, none⟩ (.bool t2)).setCell ⟨w.heap.size, 5, none⟩ (u d2)).setCell ⟨w.heap.size, 6, none⟩ (u e2)).setCell ⟨w.heap.size, 7, none⟩ (.pointer q2) = WS := ⟨_, rfl⟩
  rw [hWS] at H1 H2 HA HX HG ⊢
  clear hWS
  refine (HC1.out _ _ H1.out HA.out).mono ?_
  rintro e W3 ⟨rfl, hb⟩
  obtain ⟨g0, g1, g2, g3⟩ := HG.out
  (have hh := boxq (b := w.heap.size + 1) hb g0 g1 g2 g3; clear g0 g1 g2 g3; obtain ⟨g0, g1, g2, g3⟩ := hh)
  have hB := Box8.below HX.out hb (Nat.le_refl _)
  (obtain ⟨c0, c1, c2, c3, c4, c5, c6, c7⟩ := hB.cells)
  have H2 := Lib.hid (H2.out.below hb (Nat.le_refl _))
  have HA := Lib.hid (chain1 HA.out hb)
  clear hb hB HX HG H1 HC1
  cases r1
  · have hr1 : ¬ m1 ≤ 0 := by simpa using hn1
    have hrd : decide (m1 ≤ 0) = false := hn1
    go_wp2_with fail
    go_ret
    exact ⟨rfl, HA.out⟩
  · have hr1 : m1 ≤ 0 := by simpa using hn1
    go_wp2_with fail
    refine (HC2.out _ _ H2.out HA.out).mono ?_
    rintro e W4 ⟨rfl, hb⟩
    have HA := Lib.hid (chain1 HA.out hb)
    clear hb HC2 H2
    cases r2
    · have hr2 : ¬ m2 ≤ 0 := by simpa using hn2
      go_wp2_with fail
      go_ret
      exact ⟨rfl, HA.out⟩
    · have hr2 : m2 ≤ 0 := by simpa using hn2
      go_wp2_with fail
      go_ret
      exact ⟨rfl, HA.out⟩
open Go Go.RowKit Go.Proofs Lim
def OpAt (w : World) (g : Nat) (v1 v2 : Value) (t : Rat) : Prop := ∀ W, Below w.heap.size w W → Calls Tryz.prog g #[v1, v2] W (QNew W t)
set_option maxHeartbeats 2000000 in
theorem with_any (g : Nat) (eg : ∀ args w, (callFunc g args).run Tryz.prog w = .ok (.enter g args) w) (s1 s2 s3 s4 : Bool) (a1 b1 a2 b2 a3 b3 a4 b4 : Nat) (p1 p2 p3 p4 : Option Addr) (r1 r2 r3 r4 : Rat) (k : Nat) (w : World)
    (h1 : OpAt w g (.agg #[.bool s1, u a1, u b1, .pointer p1]) (.agg #[.bool s3, u a3, u b3, .pointer p3]) r1) (h2 : OpAt w g (.agg #[.bool s1, u a1, u b1, .pointer p1]) (.agg #[.bool s4, u a4, u b4, .pointer p4]) r2)
    (h3 : OpAt w g (.agg #[.bool s2, u a2, u b2, .pointer p2]) (.agg #[.bool s3, u a3, u b3, .pointer p3]) r3) (h4 : OpAt w g (.agg #[.bool s2, u a2, u b2, .pointer p2]) (.agg #[.bool s4, u a4, u b4, .pointer p4]) r4)
    (z1 : Siz r1 k) (z2 : Siz r2 k) (z3 : Siz r3 k) (z4 : Siz r4 k) (hk : (k : Int) ≤ 1073741824) :
    Calls Tryz.prog 102 #[.agg #[.bool s1, u a1, u b1, .pointer p1, .bool s2, u a2, u b2, .pointer p2], .agg #[.bool s3, u a3, u b3, .pointer p3, .bool s4, u a4, u b4, .pointer p4], .func (.func g) #[] #[]] w
      (SpNew w (lowOf r1 [r2, r3, r4]) (highOf r1 [r2, r3, r4])) := by
  have HA := Lib.hid (fun v sl W (hv : IsQ W v r1) (hs : QSl W sl [r2, r3, r4]) => around_any v sl r1 [r2, r3, r4] k W hv hs z1 (by intro x hx; simp at hx; rcases hx with rfl | rfl | rfl <;> assumption) hk (by simp))
  unfold OpAt at h1 h2 h3 h4
  have H1 := Lib.hid h1
  have H2 := Lib.hid h2
  have H3 := Lib.hid h3
  have H4 := Lib.hid h4
  clear h1 h2 h3 h4 z1 z2 z3 z4 hk
  go_enter Tryz.func102, Tryz.ntmps102
  go_wp2_with fail
  obtain ⟨W0, hW0, hb0, hX, hY, hz, hs⟩ := box88z w (.bool s1) (u a1) (u b1) (.pointer p1) (.bool s2) (u a2) (u b2) (.pointer p2) (.bool s3) (u a3) (u b3) (.pointer p3) (.bool s4) (u a4) (u b4) (.pointer p4)
  rw [hW0]
  have HW0 := Lib.hid hb0
  have HZ := Lib.hid hz
  have HX := Lib.hid hX
  have HY := Lib.hid hY
  have hb0 := Below.refl W0.heap.size W0
  have n1 : ¬ w.heap.size = w.heap.size + 1 + 1 := by omega
  have n2 : ¬ w.heap.size + 1 + 1 = w.heap.size := by omega
  have n3 : ¬ w.heap.size + 1 = w.heap.size + 1 + 1 := by omega
  have n4 : ¬ w.heap.size + 1 + 1 = w.heap.size + 1 := by omega
  (obtain ⟨c0, c1, c2, c3, c4, c5, c6, c7⟩ := hX.cells)
  (obtain ⟨d0, d1, d2, d3, d4, d5, d6, d7⟩ := hY.cells)
  clear hX hY hz hs hW0
  go_region_held3 (fun w' => (w'.cell? ⟨w.heap.size, 0, none⟩ = some (.bool s1) ∧ w'.cell? ⟨w.heap.size, 1, none⟩ = some (u a1) ∧ w'.cell? ⟨w.heap.size, 2, none⟩ = some (u b1) ∧ w'.cell? ⟨w.heap.size, 3, none⟩ = some (.pointer p1) ∧ w'.cell? ⟨w.heap.size, 4, none⟩ = some (.bool s2) ∧ w'.cell? ⟨w.heap.size, 5, none⟩ = some (u a2) ∧ w'.cell? ⟨w.heap.size, 6, none⟩ = some (u b2) ∧ w'.cell? ⟨w.heap.size, 7, none⟩ = some (.pointer p2)) ∧ (w'.cell? ⟨w.heap.size + 1, 0, none⟩ = some (.bool s3) ∧ w'.cell? ⟨w.heap.size + 1, 1, none⟩ = some (u a3) ∧ w'.cell? ⟨w.heap.size + 1, 2, none⟩ = some (u b3) ∧ w'.cell? ⟨w.heap.size + 1, 3, none⟩ = some (.pointer p3) ∧ w'.cell? ⟨w.heap.size + 1, 4, none⟩ = some (.bool s4) ∧ w'.cell? ⟨w.heap.size + 1, 5, none⟩ = some (u a4) ∧ w'.cell? ⟨w.heap.size + 1, 6, none⟩ = some (u b4) ∧ w'.cell? ⟨w.heap.size + 1, 7, none⟩ = some (.pointer p4))) (go_keep) (first | ((with_reducible refine (H1.out _ HW0.out.drew).mono ?_); rintro e W1 ⟨v1, rfl, hv1, hb⟩; obtain ⟨x1, y1, y1', q1, rfl⟩ := hv1.form; have hb0 : Below W0.heap.size W0 W1 := (by first | exact chain hb0 hb | exact chain1 hb0 hb); clear hb; clear c0 c1 c2 c3 c4 c5 c6 c7 d0 d1 d2 d3 d4 d5 d6 d7; have hX := Box8.below HX.out hb0 (Nat.le_refl _); have hY := Box8.below HY.out hb0 (Nat.le_refl _); (obtain ⟨c0, c1, c2, c3, c4, c5, c6, c7⟩ := hX.cells); (obtain ⟨d0, d1, d2, d3, d4, d5, d6, d7⟩ := hY.cells); clear hX hY) | ((with_reducible refine (H2.out _ (chain1 HW0.out hb0)).mono ?_); rintro e W2 ⟨v2, rfl, hv2, hb⟩; obtain ⟨x2, y2, y2', q2, rfl⟩ := hv2.form; have hv1 := hv1.below hb (Nat.le_refl _); have hb0 : Below W0.heap.size W0 W2 := (by first | exact chain hb0 hb | exact chain1 hb0 hb); clear hb; clear c0 c1 c2 c3 c4 c5 c6 c7 d0 d1 d2 d3 d4 d5 d6 d7; have hX := Box8.below HX.out hb0 (Nat.le_refl _); have hY := Box8.below HY.out hb0 (Nat.le_refl _); (obtain ⟨c0, c1, c2, c3, c4, c5, c6, c7⟩ := hX.cells); (obtain ⟨d0, d1, d2, d3, d4, d5, d6, d7⟩ := hY.cells); clear hX hY) | ((with_reducible refine (H3.out _ (chain1 HW0.out hb0)).mono ?_); rintro e W3 ⟨v3, rfl, hv3, hb⟩; obtain ⟨x3, y3, y3', q3, rfl⟩ := hv3.form; have hv1 := hv1.below hb (Nat.le_refl _); have hv2 := hv2.below hb (Nat.le_refl _); have hb0 : Below W0.heap.size W0 W3 := (by first | exact chain hb0 hb | exact chain1 hb0 hb); clear hb; clear c0 c1 c2 c3 c4 c5 c6 c7 d0 d1 d2 d3 d4 d5 d6 d7; have hX := Box8.below HX.out hb0 (Nat.le_refl _); have hY := Box8.below HY.out hb0 (Nat.le_refl _); (obtain ⟨c0, c1, c2, c3, c4, c5, c6, c7⟩ := hX.cells); (obtain ⟨d0, d1, d2, d3, d4, d5, d6, d7⟩ := hY.cells); clear hX hY) | ((with_reducible refine (H4.out _ (chain1 HW0.out hb0)).mono ?_); rintro e W4 ⟨v4, rfl, hv4, hb⟩; obtain ⟨x4, y4, y4', q4, rfl⟩ := hv4.form; have hv1 := hv1.below hb (Nat.le_refl _); have hv2 := hv2.below hb (Nat.le_refl _); have hv3 := hv3.below hb (Nat.le_refl _); have hb0 : Below W0.heap.size W0 W4 := (by first | exact chain hb0 hb | exact chain1 hb0 hb); clear hb; clear c0 c1 c2 c3 c4 c5 c6 c7 d0 d1 d2 d3 d4 d5 d6 d7; have hX := Box8.below HX.out hb0 (Nat.le_refl _); have hY := Box8.below HY.out hb0 (Nat.le_refl _); (obtain ⟨c0, c1, c2, c3, c4, c5, c6, c7⟩ := hX.cells); (obtain ⟨d0, d1, d2, d3, d4, d5, d6, d7⟩ := hY.cells); clear hX hY) | ((with_reducible refine (HA.out _ _ _ (hv1.below (below1 W4 _) (Nat.le_refl _)) (qsl3 W4 x2 x3 x4 y2 y2' y3 y3' y4 y4' q2 q3 q4 r2 r3 r4 hv2 hv3 hv4)).mono ?_); rintro e W9 ⟨v, rfl, hv, hb⟩; have hb9 := chain1 hb0 (chain1 (below1 W4 _) hb); clear hb; clear c0 c1 c2 c3 c4 c5 c6 c7 d0 d1 d2 d3 d4 d5 d6 d7; have hX := Box8.below HX.out hb9 (Nat.le_refl _); have hY := Box8.below HY.out hb9 (Nat.le_refl _); (obtain ⟨c0, c1, c2, c3, c4, c5, c6, c7⟩ := hX.cells); (obtain ⟨d0, d1, d2, d3, d4, d5, d6, d7⟩ := hY.cells); clear hX hY; have hv' := hv; obtain ⟨t1, d1', e1, q1', t2, d2', e2, q2', rfl, _, _⟩ := hv'; have hz9 := Box8.below HZ.out hb9 (Nat.le_refl _); (obtain ⟨z0, z1, z2, z3, z4, z5, z6, z7⟩ := Box8.cells hz9; have zf0 := Box8.frozen hz9 0; have zf1 := Box8.frozen hz9 1; have zf2 := Box8.frozen hz9 2; have zf3 := Box8.frozen hz9 3; have zf4 := Box8.frozen hz9 4; have zf5 := Box8.frozen hz9 5; have zf6 := Box8.frozen hz9 6; have zf7 := Box8.frozen hz9 7)))
  have hfin := SpNew.stored (Box8.nbox hz9) hv (chain1 HW0.out hb9) (show w.heap.size ≤ w.heap.size + 1 + 1 by omega) (.bool t1) (u d1') (u e1) (.pointer q1') (.bool t2) (u d2') (u e2) (.pointer q2')
  have HFin := Lib.hid hfin
  clear hfin hv hz9 hb9 hv1 hv2 hv3 hv4 hb0 c0 c1 c2 c3 c4 c5 c6 c7 d0 d1 d2 d3 d4 d5 d6 d7
  go_wp2_with fail
  refine bodyPost_ret (v := .agg #[.bool t1, u d1', u e1, .pointer q1', .bool t2, u d2', u e2, .pointer q2']) (by simp [results, Tryz.results102, go_sem, z0, z1, z2, z3, z4, z5, z6, z7]) rfl ?_
  exact HFin.out
def wLow (f : Rat → Rat → Rat) (a b c d : Rat) : Rat := lowOf (f a c) [f a d, f b c, f b d]
def wHigh (f : Rat → Rat → Rat) (a b c d : Rat) : Rat := highOf (f a c) [f a d, f b c, f b d]
theorem with_op (g : Nat) (eg : ∀ args w, (callFunc g args).run Tryz.prog w = .ok (.enter g args) w) (f : Rat → Rat → Rat) (v1 v2 : Value) (a b c d : Rat) (k j : Nat) (w : World)
    (hop : ∀ x y r s W, IsQ W x r → IsQ W y s → (r = a ∨ r = b) → (s = c ∨ s = d) → Siz r k → Siz s k → Below w.heap.size w W → Calls Tryz.prog g #[x, y] W (QNew W (f r s)))
    (hf : ∀ r s, (r = a ∨ r = b) → (s = c ∨ s = d) → Siz r k → Siz s k → Siz (f r s) j) (h1 : IsS w v1 a b) (h2 : IsS w v2 c d) (za : Siz a k) (zb : Siz b k) (zc : Siz c k) (zd : Siz d k) (hj : (j : Int) ≤ 1073741824) :
    Calls Tryz.prog 102 #[v1, v2, .func (.func g) #[] #[]] w (SpNew w (wLow f a b c d) (wHigh f a b c d)) := by
  obtain ⟨s1, a1, b1, p1, s2, a2, b2, p2, rfl, i1, i2⟩ := h1
  obtain ⟨s3, a3, b3, p3, s4, a4, b4, p4, rfl, i3, i4⟩ := h2
  exact with_any g eg s1 s2 s3 s4 a1 b1 a2 b2 a3 b3 a4 b4 p1 p2 p3 p4 (f a c) (f a d) (f b c) (f b d) j w
    (fun W hW => hop _ _ a c W (i1.below hW (Nat.le_refl _)) (i3.below hW (Nat.le_refl _)) (.inl rfl) (.inl rfl) za zc hW) (fun W hW => hop _ _ a d W (i1.below hW (Nat.le_refl _)) (i4.below hW (Nat.le_refl _)) (.inl rfl) (.inr rfl) za zd hW)
    (fun W hW => hop _ _ b c W (i2.below hW (Nat.le_refl _)) (i3.below hW (Nat.le_refl _)) (.inr rfl) (.inl rfl) zb zc hW) (fun W hW => hop _ _ b d W (i2.below hW (Nat.le_refl _)) (i4.below hW (Nat.le_refl _)) (.inr rfl) (.inr rfl) zb zd hW)
    (hf _ _ (.inl rfl) (.inl rfl) za zc) (hf _ _ (.inl rfl) (.inr rfl) za zd) (hf _ _ (.inr rfl) (.inl rfl) zb zc) (hf _ _ (.inr rfl) (.inr rfl) zb zd) hj
theorem spplus_any (v1 v2 : Value) (a b c d : Rat) (k : Nat) (w : World) (h1 : IsS w v1 a b) (h2 : IsS w v2 c d) (za : Siz a k) (zb : Siz b k) (zc : Siz c k) (zd : Siz d k) (hk : ((k + k + 1 : Nat) : Int) ≤ 1073741824) (hG : Gr w) :
    Calls Tryz.prog 47 #[v1, v2] w (SpNew w (wLow (fun r s => r + s) a b c d) (wHigh (fun r s => r + s) a b c d)) := by
  have HW := Lib.hid (fun W (hW : Below w.heap.size w W) => with_op 25 (enters_of Tryz.func25 (by kernel_rfl) rfl) (fun r s => r + s) v1 v2 a b c d k (k + k + 1) W
    (fun x y r s W' hx hy _ _ z1 z2 hW' => plus_q x y r s k W' hx hy z1 z2 hk ((hG.below hW hG.size).below hW' (Nat.le_trans hG.size hW.size))) (fun r s _ _ z1 z2 => z1.add z2) (h1.below hW (Nat.le_refl _)) (h2.below hW (Nat.le_refl _)) za zb zc zd (by omega))
  obtain ⟨s1, a1, b1, p1, s2, a2, b2, p2, rfl, _, _⟩ := h1
  obtain ⟨s3, a3, b3, p3, s4, a4, b4, p4, rfl, _, _⟩ := h2
  clear za zb zc zd hk hG
  generalize wLow (fun r s => r + s) a b c d = lo at *
  generalize wHigh (fun r s => r + s) a b c d = hi at *
  go_enter Tryz.func47, Tryz.ntmps47
  go_wp2_with fail
  obtain ⟨W0, hW0, hb0, _, _, hz, hs⟩ := box88z w (.bool s1) (u a1) (u b1) (.pointer p1) (.bool s2) (u a2) (u b2) (.pointer p2) (.bool s3) (u a3) (u b3) (.pointer p3) (.bool s4) (u a4) (u b4) (.pointer p4)
  rw [hW0]
  refine (HW.out _ hb0).mono ?_
  rintro e W9 ⟨v, rfl, hv, hb⟩
  have hz9 : ZBox8 W9 (w.heap.size + 1 + 1) := Box8.below hz hb (Nat.le_refl _)
  have HB9 := Lib.hid (chain1 hb0 hb)
  clear hb0 hz hs hW0 HW
  (have hv' := hv; obtain ⟨t1, d1, e1, q1, t2, d2, e2, q2, rfl, _, _⟩ := hv'; have HFin := Lib.hid (SpNew.stored (Box8.nbox hz9) hv HB9.out (by omega) (.bool t1) (u d1) (u e1) (.pointer q1) (.bool t2) (u d2) (u e2) (.pointer q2)); (obtain ⟨z0, z1, z2, z3, z4, z5, z6, z7⟩ := Box8.cells hz9; have zf0 := Box8.frozen hz9 0; have zf1 := Box8.frozen hz9 1; have zf2 := Box8.frozen hz9 2; have zf3 := Box8.frozen hz9 3; have zf4 := Box8.frozen hz9 4; have zf5 := Box8.frozen hz9 5; have zf6 := Box8.frozen hz9 6; have zf7 := Box8.frozen hz9 7); clear hv hz9; clear hb; go_wp2_with fail; refine bodyPost_ret (v := .agg #[.bool t1, u d1, u e1, .pointer q1, .bool t2, u d2, u e2, .pointer q2]) (by simp [results, Tryz.results47, go_sem, z0, z1, z2, z3, z4, z5, z6, z7]) rfl ?_; exact HFin.out)
theorem spminus_any (v1 v2 : Value) (a b c d : Rat) (k : Nat) (w : World) (h1 : IsS w v1 a b) (h2 : IsS w v2 c d) (za : Siz a k) (zb : Siz b k) (zc : Siz c k) (zd : Siz d k) (hk : ((k + k + 1 : Nat) : Int) ≤ 1073741824) (hG : Gr w) :
    Calls Tryz.prog 49 #[v1, v2] w (SpNew w (wLow (fun r s => r - s) a b c d) (wHigh (fun r s => r - s) a b c d)) := by
  have HW := Lib.hid (fun W (hW : Below w.heap.size w W) => with_op 27 (enters_of Tryz.func27 (by kernel_rfl) rfl) (fun r s => r - s) v1 v2 a b c d k (k + k + 1) W
    (fun x y r s W' hx hy _ _ z1 z2 hW' => minus_q x y r s k W' hx hy z1 z2 hk ((hG.below hW hG.size).below hW' (Nat.le_trans hG.size hW.size))) (fun r s _ _ z1 z2 => z1.sub z2) (h1.below hW (Nat.le_refl _)) (h2.below hW (Nat.le_refl _)) za zb zc zd (by omega))
  obtain ⟨s1, a1, b1, p1, s2, a2, b2, p2, rfl, _, _⟩ := h1
  obtain ⟨s3, a3, b3, p3, s4, a4, b4, p4, rfl, _, _⟩ := h2
  clear za zb zc zd hk hG
  generalize wLow (fun r s => r - s) a b c d = lo at *
  generalize wHigh (fun r s => r - s) a b c d = hi at *
  go_enter Tryz.func49, Tryz.ntmps49
  go_wp2_with fail
  obtain ⟨W0, hW0, hb0, _, _, hz, hs⟩ := box88z w (.bool s1) (u a1) (u b1) (.pointer p1) (.bool s2) (u a2) (u b2) (.pointer p2) (.bool s3) (u a3) (u b3) (.pointer p3) (.bool s4) (u a4) (u b4) (.pointer p4)
  rw [hW0]
  refine (HW.out _ hb0).mono ?_
  rintro e W9 ⟨v, rfl, hv, hb⟩
  have hz9 : ZBox8 W9 (w.heap.size + 1 + 1) := Box8.below hz hb (Nat.le_refl _)
  have HB9 := Lib.hid (chain1 hb0 hb)
  clear hb0 hz hs hW0 HW
  (have hv' := hv; obtain ⟨t1, d1, e1, q1, t2, d2, e2, q2, rfl, _, _⟩ := hv'; have HFin := Lib.hid (SpNew.stored (Box8.nbox hz9) hv HB9.out (by omega) (.bool t1) (u d1) (u e1) (.pointer q1) (.bool t2) (u d2) (u e2) (.pointer q2)); (obtain ⟨z0, z1, z2, z3, z4, z5, z6, z7⟩ := Box8.cells hz9; have zf0 := Box8.frozen hz9 0; have zf1 := Box8.frozen hz9 1; have zf2 := Box8.frozen hz9 2; have zf3 := Box8.frozen hz9 3; have zf4 := Box8.frozen hz9 4; have zf5 := Box8.frozen hz9 5; have zf6 := Box8.frozen hz9 6; have zf7 := Box8.frozen hz9 7); clear hv hz9; clear hb; go_wp2_with fail; refine bodyPost_ret (v := .agg #[.bool t1, u d1, u e1, .pointer q1, .bool t2, u d2, u e2, .pointer q2]) (by simp [results, Tryz.results49, go_sem, z0, z1, z2, z3, z4, z5, z6, z7]) rfl ?_; exact HFin.out)
theorem sptimes_any (v1 v2 : Value) (a b c d : Rat) (k : Nat) (w : World) (h1 : IsS w v1 a b) (h2 : IsS w v2 c d) (za : Siz a k) (zb : Siz b k) (zc : Siz c k) (zd : Siz d k) (hk : ((k + k + 1 : Nat) : Int) ≤ 1073741824) (hG : Gr w) :
    Calls Tryz.prog 51 #[v1, v2] w (SpNew w (wLow (fun r s => r * s) a b c d) (wHigh (fun r s => r * s) a b c d)) := by
  have HW := Lib.hid (fun W (hW : Below w.heap.size w W) => with_op 29 (enters_of Tryz.func29 (by kernel_rfl) rfl) (fun r s => r * s) v1 v2 a b c d k (k + k) W
    (fun x y r s W' hx hy _ _ z1 z2 hW' => times_q x y r s k W' hx hy z1 z2 (by omega) ((hG.below hW hG.size).below hW' (Nat.le_trans hG.size hW.size))) (fun r s _ _ z1 z2 => z1.mul z2) (h1.below hW (Nat.le_refl _)) (h2.below hW (Nat.le_refl _)) za zb zc zd (by omega))
  obtain ⟨s1, a1, b1, p1, s2, a2, b2, p2, rfl, _, _⟩ := h1
  obtain ⟨s3, a3, b3, p3, s4, a4, b4, p4, rfl, _, _⟩ := h2
  clear za zb zc zd hk hG
  generalize wLow (fun r s => r * s) a b c d = lo at *
  generalize wHigh (fun r s => r * s) a b c d = hi at *
  go_enter Tryz.func51, Tryz.ntmps51
  go_wp2_with fail
  obtain ⟨W0, hW0, hb0, _, _, hz, hs⟩ := box88z w (.bool s1) (u a1) (u b1) (.pointer p1) (.bool s2) (u a2) (u b2) (.pointer p2) (.bool s3) (u a3) (u b3) (.pointer p3) (.bool s4) (u a4) (u b4) (.pointer p4)
  rw [hW0]
  refine (HW.out _ hb0).mono ?_
  rintro e W9 ⟨v, rfl, hv, hb⟩
  have hz9 : ZBox8 W9 (w.heap.size + 1 + 1) := Box8.below hz hb (Nat.le_refl _)
  have HB9 := Lib.hid (chain1 hb0 hb)
  clear hb0 hz hs hW0 HW
  (have hv' := hv; obtain ⟨t1, d1, e1, q1, t2, d2, e2, q2, rfl, _, _⟩ := hv'; have HFin := Lib.hid (SpNew.stored (Box8.nbox hz9) hv HB9.out (by omega) (.bool t1) (u d1) (u e1) (.pointer q1) (.bool t2) (u d2) (u e2) (.pointer q2)); (obtain ⟨z0, z1, z2, z3, z4, z5, z6, z7⟩ := Box8.cells hz9; have zf0 := Box8.frozen hz9 0; have zf1 := Box8.frozen hz9 1; have zf2 := Box8.frozen hz9 2; have zf3 := Box8.frozen hz9 3; have zf4 := Box8.frozen hz9 4; have zf5 := Box8.frozen hz9 5; have zf6 := Box8.frozen hz9 6; have zf7 := Box8.frozen hz9 7); clear hv hz9; clear hb; go_wp2_with fail; refine bodyPost_ret (v := .agg #[.bool t1, u d1, u e1, .pointer q1, .bool t2, u d2, u e2, .pointer q2]) (by simp [results, Tryz.results51, go_sem, z0, z1, z2, z3, z4, z5, z6, z7]) rfl ?_; exact HFin.out)
open Go Go.RowKit Go.Proofs Lim
def FnAt (w : World) (g : Nat) (pre cap : Array Value) (v : Value) (t : Rat) : Prop := ∀ W, Below w.heap.size w W → Calls Tryz.prog g (pre.push v ++ cap) W (QNew W t)
theorem under_none (g : Nat) (pre cap : Array Value) (eg : ∀ args w, (callFunc g args).run Tryz.prog w = .ok (.enter g args) w) (s1 s2 : Bool) (a1 b1 a2 b2 : Nat) (p1 p2 : Option Addr) (r1 r2 : Rat) (c : Nat) (k : Nat) (w : World)
    (h1 : FnAt w g pre cap (.agg #[.bool s1, u a1, u b1, .pointer p1]) r1) (h2 : FnAt w g pre cap (.agg #[.bool s2, u a2, u b2, .pointer p2]) r2)
    (z1 : Siz r1 k) (z2 : Siz r2 k) (hk : (k : Int) ≤ 1073741824) :
    Calls Tryz.prog 109 #[.agg #[.bool s1, u a1, u b1, .pointer p1, .bool s2, u a2, u b2, .pointer p2], .func (.func g) pre cap, .slice none 0 c] w
      (SpNew w (lowOf r1 [r2]) (highOf r1 [r2])) := by
  have HA := Lib.hid (fun v sl W (hv : IsQ W v r1) (hs : QSl W sl [r2]) => around_any v sl r1 [r2] k W hv hs z1 (siz1 z2) hk (by simp))
  unfold FnAt at h1 h2
  have H1 := Lib.hid h1
  have H2 := Lib.hid h2
  clear h1 h2 z1 z2 hk
  go_enter Tryz.func109, Tryz.ntmps109
  go_wp2_with fail
  obtain ⟨W0, hW0, hb0, hX, hz, hs⟩ := box8z w (.bool s1) (u a1) (u b1) (.pointer p1) (.bool s2) (u a2) (u b2) (.pointer p2)
  rw [hW0]
  have HX := Lib.hid hX
  have HZ := Lib.hid hz
  refine (H2.out _ hb0).mono ?_
  rintro e W1 ⟨v2, rfl, hv2, hb⟩
  obtain ⟨x2, y2, y2', q2, rfl⟩ := hv2.form
  have HA1 := Lib.hid (chain1 hb0 hb)
  have HX := Lib.hid (Box8.below HX.out hb (Nat.le_refl _))
  have HZ := Lib.hid (Box8.below HZ.out hb (Nat.le_refl _))
  have HV2 := Lib.hid hv2
  have l1 : w.heap.size < W1.heap.size := HX.out.lt
  (obtain ⟨c0, c1, c2, c3, c4, c5, c6, c7⟩ := HX.out.cells)
  clear hX hz hs hW0 hb hb0 hv2
  go_wp2_with fail
  refine wp_loop_rounds 1 ?_
  rw [rounds_succ]
  go_wp2_with fail
  have hbS := below1 W1 (.cells #[.bool x2, u y2, u y2', .pointer q2] 26)
  have HSl := Lib.hid (qsl1 W1 x2 y2 y2' q2 r2 HV2.out)
  have HX := Lib.hid (Box8.below HX.out hbS (Nat.le_refl _))
  have HZ := Lib.hid (Box8.below HZ.out hbS (Nat.le_refl _))
  have HA2 := Lib.hid (chain1 HA1.out hbS)
  clear hbS c0 c1 c2 c3 c4 c5 c6 c7 l1 HV2 HA1
  obtain ⟨W2, hW2⟩ : ∃ W2, W1.alloc (.cells #[.bool x2, u y2, u y2', .pointer q2] 26) = W2 := ⟨_, rfl⟩
  rw [hW2] at HSl HX HZ HA2 ⊢
  clear hW2
  generalize W1.heap.size = bs at *
  refine (H1.out _ HA2.out).mono ?_
  rintro e W3 ⟨v1, rfl, hv1, hb⟩
  obtain ⟨x1, y1, y1', q1, rfl⟩ := hv1.form
  have HSl := Lib.hid (HSl.out.below hb (Nat.le_refl _))
  have HZ := Lib.hid (Box8.below HZ.out hb (Nat.le_refl _))
  have HA3 := Lib.hid (chain1 HA2.out hb)
  have HV1 := Lib.hid hv1
  clear hb hv1 HX HA2 H1 H2
  go_wp2_with fail
  refine (HA.out _ _ _ HV1.out HSl.out).mono ?_
  rintro e W9 ⟨v, rfl, hv, hb⟩
  have hz9 : ZBox8 W9 (w.heap.size + 1) := Box8.below HZ.out hb (Nat.le_refl _)
  have HB9 := Lib.hid (chain1 HA3.out hb)
  clear HZ HA3 HA HSl HV1
  (have hv' := hv; obtain ⟨t1, d1, e1, q1, t2, d2, e2, q2, rfl, _, _⟩ := hv'; have HFin := Lib.hid (SpNew.stored (Box8.nbox hz9) hv HB9.out (by omega) (.bool t1) (u d1) (u e1) (.pointer q1) (.bool t2) (u d2) (u e2) (.pointer q2)); (obtain ⟨z0, z1, z2, z3, z4, z5, z6, z7⟩ := Box8.cells hz9; have zf0 := Box8.frozen hz9 0; have zf1 := Box8.frozen hz9 1; have zf2 := Box8.frozen hz9 2; have zf3 := Box8.frozen hz9 3; have zf4 := Box8.frozen hz9 4; have zf5 := Box8.frozen hz9 5; have zf6 := Box8.frozen hz9 6; have zf7 := Box8.frozen hz9 7); clear hv hz9; clear hb; go_wp2_with fail; refine bodyPost_ret (v := .agg #[.bool t1, u d1, u e1, .pointer q1, .bool t2, u d2, u e2, .pointer q2]) (by simp [results, Tryz.results109, go_sem, z0, z1, z2, z3, z4, z5, z6, z7]) rfl ?_; exact HFin.out)
open Go Go.RowKit Go.Proofs Lim
theorem IsNat.grown {W W' : World} {row : Option Nat} {v : Value} {n : Nat} (hg : W.grownBy W' row) (hR : ∀ r, row = some r → NBox W r) (h : IsNat W v n) : IsNat W' v n := by
  obtain ⟨xs, ⟨⟨ao, c, rfl, h1, h2, hr⟩, ok, typ⟩, htr, hv⟩ := h
  have key : ∀ a : Addr, ao = some a → 0 < xs.length → W'.heap[a.block]? = W.heap[a.block]? := by
    intro a ha hn
    subst ha
    obtain ⟨cs', fr', hc⟩ := typ a _ _ rfl hn
    refine hg.block a.block (Array.getElem?_eq_some_iff.1 hc).1 ?_
    intro e
    obtain ⟨cs, t, fr, hb, ht, _⟩ := hR a.block e.symm
    rw [hb] at hc
    injection hc with hc
    injection hc with _ hc
    exact ht hc
  refine ⟨xs, ⟨⟨ao, c, rfl, h1, h2, fun hn => ?_⟩, ok, fun a n' c' e hn => ?_⟩, htr, hv⟩
  · obtain ⟨b, off, rfl, row'⟩ := hr hn
    refine ⟨b, off, rfl, fun i hi => ?_⟩
    exact (World.cell?_of_block (w := W) (a := ⟨b, off + i, none⟩) (key ⟨b, off, none⟩ rfl hn)).trans (row' i hi)
  · injection e with e1 e2 e3
    subst e1 e2 e3
    obtain ⟨cs', fr', hc⟩ := typ a _ _ rfl hn
    exact ⟨cs', fr', (key a rfl hn).trans hc⟩
theorem IsQ.grown {W W' : World} {row : Option Nat} {v : Value} {r : Rat} (hg : W.grownBy W' row) (hR : ∀ r, row = some r → NBox W r) (h : IsQ W v r) : IsQ W' v r := by
  unfold IsQ at *
  cases h with
  | low l hv hd hn hdB => exact .low l hv hd hn hdB
  | wide b x y hv hx hy h1 h2 hB h0 hd =>
    have hb : W'.heap[b]? = W.heap[b]? := by
      refine hg.block b (World.block_lt_of_cell? W _ hx) ?_
      intro e
      obtain ⟨cs, t, fr, hb, _, hz⟩ := hR b e.symm
      obtain ⟨_, _, _, rfl, _⟩ := h1.form
      rw [World.cell?, hb] at hx
      obtain ⟨s, e⟩ := hz _ hx
      cases e
    exact .wide b x y hv ((World.cell?_of_block (w := W) (a := ⟨b, 0, none⟩) hb).trans hx) ((World.cell?_of_block (w := W) (a := ⟨b, 1, none⟩) hb).trans hy) (h1.grown hg hR) (h2.grown hg hR) hB h0 hd
theorem info_q : (Tryz.prog.info? 26).map (fun i => (i.zero, i.size, i.bytes)) = some (some (.agg #[.bool false, .int .u64 0, .int .u64 0, .pointer none]), 4, 32) := by kernel_rfl
theorem qsl_owned2 {w w1 : World} {v : Value} {s1 s2 : Bool} {a1 b1 a2 b2 : Nat} {p1 p2 : Option Addr} {r1 r2 : Rat}
    (h : w1.ownsRow w.heap.size 26 4 v 2 [.bool s1, u a1, u b1, .pointer p1, .bool s2, u a2, u b2, .pointer p2])
    (h1 : IsQ w1 (.agg #[.bool s1, u a1, u b1, .pointer p1]) r1) (h2 : IsQ w1 (.agg #[.bool s2, u a2, u b2, .pointer p2]) r2) : QSl w1 v [r1, r2] := by
  obtain ⟨_, ⟨_, h0⟩ | ⟨g, cap, cur, rfl, _, hg, hn, hm, hs, ht⟩⟩ := h
  · cases h0
  · unfold maxLen at hm
    refine ⟨_, cap, rfl, hn, by omega, fun _ => ⟨g, 0, rfl, fun i hi => ?_⟩⟩
    have hc : ∀ j, j < 8 → w1.cell? ⟨g, j, none⟩ = ([.bool s1, u a1, u b1, .pointer p1, .bool s2, u a2, u b2, .pointer p2] : List Value)[j]? := by
      intro j hj
      rw [← ht, List.getElem?_take, if_pos (by omega)]
      simp [World.cell?, hg]
    have hi : i < 2 := hi
    rcases i with _ | _ | i
    · exact ⟨_, ⟨s1, a1, b1, p1, rfl, hc 0 (by omega), hc 1 (by omega), hc 2 (by omega), hc 3 (by omega)⟩, h1⟩
    · exact ⟨_, ⟨s2, a2, b2, p2, rfl, hc 4 (by omega), hc 5 (by omega), hc 6 (by omega), hc 7 (by omega)⟩, h2⟩
    · omega
theorem box2b (w : World) (a0 a1 a2 a3 b0 b1 b2 b3 : Value) : ∃ W, (w.alloc (.cells #[a0, a1, a2, a3] 26)).alloc (.cells #[b0, b1, b2, b3] 26) = W ∧ Below w.heap.size w W ∧ Box W w.heap.size a0 a1 a2 a3 ∧ Box W (w.heap.size + 1) b0 b1 b2 b3 ∧ W.heap.size = w.heap.size + 1 + 1 := by
  have hb1 := below1 w (.cells #[a0, a1, a2, a3] 26)
  have h1 : Box _ w.heap.size a0 a1 a2 a3 := heap_alloc_new w (.cells #[a0, a1, a2, a3] 26)
  have hs1 : (w.alloc (.cells #[a0, a1, a2, a3] 26)).heap.size = w.heap.size + 1 := World.size_alloc ..
  generalize w.alloc (.cells #[a0, a1, a2, a3] 26) = W1 at *
  have hb2 := below1 W1 (.cells #[b0, b1, b2, b3] 26)
  have h2 : Box _ W1.heap.size b0 b1 b2 b3 := heap_alloc_new W1 (.cells #[b0, b1, b2, b3] 26)
  rw [hs1] at h2
  exact ⟨_, rfl, chain1 hb1 hb2, h1.below hb2 (Nat.le_refl _), h2, by rw [World.size_alloc, hs1]⟩
theorem Box.owned {W : World} {b base : Nat} {c0 c1 c2 c3 : Value} (h : Box W b c0 c1 c2 c3) (hb : base ≤ b) : W.ownsRow base 26 4 (.slice (some ⟨b, 0, none⟩) 1 1) 1 [c0, c1, c2, c3] :=
  ⟨rfl, .inr ⟨b, 1, _, rfl, hb, h, Nat.le_refl _, by decide, rfl, rfl⟩⟩
def turnVals (has : Bool) (r2 r3 : Rat) : List Rat := if has then [r2, r3] else [r2]
set_option maxHeartbeats 1000000 in
theorem under_one (g : Nat) (pre cap : Array Value) (eg : ∀ args w, (callFunc g args).run Tryz.prog w = .ok (.enter g args) w) (s1 s2 : Bool) (a1 b1 a2 b2 : Nat) (p1 p2 : Option Addr) (lo hi t r1 r2 r3 : Rat) (k : Nat) (w : World)
    (bt off ct : Nat) (s3 : Bool) (a3 b3 : Nat) (p3 : Option Addr) (i1 : IsQ w (.agg #[.bool s1, u a1, u b1, .pointer p1]) lo) (i2 : IsQ w (.agg #[.bool s2, u a2, u b2, .pointer p2]) hi) (i3 : IsQ w (.agg #[.bool s3, u a3, u b3, .pointer p3]) t)
    (k0 : w.cell? ⟨bt, off, none⟩ = some (.bool s3)) (k1 : w.cell? ⟨bt, off + 1, none⟩ = some (u a3)) (k2 : w.cell? ⟨bt, off + 2, none⟩ = some (u b3)) (k3 : w.cell? ⟨bt, off + 3, none⟩ = some (.pointer p3))
    (h1 : FnAt w g pre cap (.agg #[.bool s1, u a1, u b1, .pointer p1]) r1) (h2 : FnAt w g pre cap (.agg #[.bool s2, u a2, u b2, .pointer p2]) r2) (h3 : hasQ lo hi t = true → FnAt w g pre cap (.agg #[.bool s3, u a3, u b3, .pointer p3]) r3)
    (zl : Siz lo k) (zh : Siz hi k) (zt : Siz t k) (z1 : Siz r1 k) (z2 : Siz r2 k) (z3 : hasQ lo hi t = true → Siz r3 k) (hk : (k : Int) ≤ 1073741824) :
    Calls Tryz.prog 109 #[.agg #[.bool s1, u a1, u b1, .pointer p1, .bool s2, u a2, u b2, .pointer p2], .func (.func g) pre cap, .slice (some ⟨bt, off, none⟩) 1 ct] w
      (SpNew w (lowOf r1 (turnVals (hasQ lo hi t) r2 r3)) (highOf r1 (turnVals (hasQ lo hi t) r2 r3))) := by
  have HHas := Lib.hid (fun W (hW : Below w.heap.size w W) => has_any (.agg #[.bool s1, u a1, u b1, .pointer p1, .bool s2, u a2, u b2, .pointer p2]) (.agg #[.bool s3, u a3, u b3, .pointer p3]) lo hi t k W
    ⟨s1, a1, b1, p1, s2, a2, b2, p2, rfl, i1.below hW (Nat.le_refl _), i2.below hW (Nat.le_refl _)⟩ (i3.below hW (Nat.le_refl _)) zl zh zt hk)
  have HA := Lib.hid (fun v sl W (hv : IsQ W v r1) (hs : QSl W sl (turnVals (hasQ lo hi t) r2 r3)) => around_any v sl r1 (turnVals (hasQ lo hi t) r2 r3) k W hv hs z1 (by
    unfold turnVals
    split
    · rename_i hh
      intro x hx
      simp at hx
      rcases hx with rfl | rfl
      · exact z2
      · exact z3 hh
    · exact siz1 z2) hk (by unfold turnVals; split <;> simp))
  unfold FnAt at h1 h2 h3
  have H1 := Lib.hid h1
  have H2 := Lib.hid h2
  have H3 := Lib.hid h3
  have lt0 : bt < w.heap.size := World.block_lt_of_cell? w _ k0
  clear h1 h2 h3 z1 z2 z3 zl zh zt i1 i2 i3 hk
  generalize hasQ lo hi t = hb at *
  go_enter Tryz.func109, Tryz.ntmps109
  go_wp2_with fail
  obtain ⟨W0, hW0, hb0, hX, hz, hs⟩ := box8z w (.bool s1) (u a1) (u b1) (.pointer p1) (.bool s2) (u a2) (u b2) (.pointer p2)
  rw [hW0]
  have HX := Lib.hid hX
  have HZ := Lib.hid hz
  refine (H2.out _ hb0).mono ?_
  rintro e W1 ⟨v2, rfl, hv2, hbb⟩
  obtain ⟨x2, y2, y2', q2, rfl⟩ := hv2.form
  have hA1 := chain1 hb0 hbb
  have HX := Lib.hid (Box8.below HX.out hbb (Nat.le_refl _))
  have HZ := Lib.hid (Box8.below HZ.out hbb (Nat.le_refl _))
  have HV2 := Lib.hid hv2
  have l1 : w.heap.size < W1.heap.size := HX.out.lt
  have l2 : bt < W1.heap.size := by omega
  have k0 := (hA1.cell (p := ⟨bt, off, none⟩) lt0).trans k0
  have k1 := (hA1.cell (p := ⟨bt, off + 1, none⟩) lt0).trans k1
  have k2 := (hA1.cell (p := ⟨bt, off + 2, none⟩) lt0).trans k2
  have k3 := (hA1.cell (p := ⟨bt, off + 3, none⟩) lt0).trans k3
  have HA1 := Lib.hid hA1
  (obtain ⟨c0, c1, c2, c3, c4, c5, c6, c7⟩ := HX.out.cells)
  clear hX hz hs hW0 hbb hb0 hv2 hA1
  go_wp2_with fail
  refine wp_loop_rounds 2 ?_
  rw [rounds_succ]
  go_wp2_with fail
  have HZ1 := HZ
  obtain ⟨W2, hW2, hb2, hS, hXb, hs2⟩ := box2b W1 (.bool x2) (u y2) (u y2') (.pointer q2) (.bool s3) (u a3) (u b3) (.pointer p3)
  rw [hW2]
  have HX := Lib.hid (Box8.below HX.out hb2 (Nat.le_refl _))
  have HZ := Lib.hid (Box8.below HZ.out hb2 (Nat.le_refl _))
  have HV2 := Lib.hid (HV2.out.below hb2 (Nat.le_refl _))
  have HA2 := Lib.hid (chain1 HA1.out hb2)
  have HS := Lib.hid hS
  have HXb := Lib.hid hXb
  have hbs : w.heap.size + 1 < W1.heap.size := Box8.lt HZ1.out
  have HBs := Lib.hid hbs
  clear hW2 hb2 hS hXb hs2 c0 c1 c2 c3 c4 c5 c6 c7 k0 k1 k2 k3 l1 l2 HA1 hbs HZ1
  generalize W1.heap.size = bs at *
  refine (HHas.out _ HA2.out).mono ?_
  rintro e W3 ⟨rfl, hbb⟩
  have HX := Lib.hid (Box8.below HX.out hbb (Nat.le_refl _))
  have HZ := Lib.hid (Box8.below HZ.out hbb (Nat.le_refl _))
  have HV2 := Lib.hid (HV2.out.below hbb (Nat.le_refl _))
  have HA3 := Lib.hid (chain1 HA2.out hbb)
  have HS := Lib.hid (HS.out.below hbb (Nat.le_refl _))
  have HXb := Lib.hid (HXb.out.below hbb (Nat.le_refl _))
  (obtain ⟨c0, c1, c2, c3, c4, c5, c6, c7⟩ := HX.out.cells)
  obtain ⟨g0, g1, g2, g3⟩ := HXb.out.cells
  clear hbb HA2 HHas
  cases hb
  · have HSl : Hid (QSl W3 (.slice (some ⟨bs, 0, none⟩) 1 1) (turnVals false r2 r3)) := by
      obtain ⟨i0, i1, i2, i3⟩ := HS.out.cells
      exact ⟨_, 1, rfl, Nat.le_refl _, by decide, fun _ => ⟨bs, 0, rfl, fun i hi => by
        have : i = 0 := by simpa [turnVals] using hi
        subst this
        exact ⟨_, ⟨x2, y2, y2', q2, rfl, i0, i1, i2, i3⟩, HV2.out⟩⟩⟩
    go_wp2_with fail
    rw [rounds_succ]
    go_wp2_with fail
    refine (H1.out _ HA3.out).mono ?_
    rintro e W4 ⟨v1, rfl, hv1, hbb⟩
    obtain ⟨x1, y1, y1', q1, rfl⟩ := hv1.form
    have HSl := Lib.hid (HSl.out.below hbb (Nat.le_refl _))
    have HZ := Lib.hid (Box8.below HZ.out hbb (Nat.le_refl _))
    have HA4 := Lib.hid (chain1 HA3.out hbb)
    have HV1 := Lib.hid hv1
    clear hbb hv1 HX HA3 H1 H2 H3 c0 c1 c2 c3 c4 c5 c6 c7 g0 g1 g2 g3
    go_wp2_with fail
    refine (HA.out _ _ _ HV1.out HSl.out).mono ?_
    rintro e W9 ⟨v, rfl, hv, hb⟩
    have hz9 : ZBox8 W9 (w.heap.size + 1) := Box8.below HZ.out hb (Nat.le_refl _)
    have HB9 := Lib.hid (chain1 HA4.out hb)
    clear HZ HA4 HA HSl HV1
    (have hv' := hv; obtain ⟨t1, d1, e1, q1, t2, d2, e2, q2, rfl, _, _⟩ := hv'; have HFin := Lib.hid (SpNew.stored (Box8.nbox hz9) hv HB9.out (by omega) (.bool t1) (u d1) (u e1) (.pointer q1) (.bool t2) (u d2) (u e2) (.pointer q2)); (obtain ⟨z0, z1, z2, z3, z4, z5, z6, z7⟩ := Box8.cells hz9; have zf0 := Box8.frozen hz9 0; have zf1 := Box8.frozen hz9 1; have zf2 := Box8.frozen hz9 2; have zf3 := Box8.frozen hz9 3; have zf4 := Box8.frozen hz9 4; have zf5 := Box8.frozen hz9 5; have zf6 := Box8.frozen hz9 6; have zf7 := Box8.frozen hz9 7); clear hv hz9; clear hb; go_wp2_with fail; refine bodyPost_ret (v := .agg #[.bool t1, u d1, u e1, .pointer q1, .bool t2, u d2, u e2, .pointer q2]) (by simp [results, Tryz.results109, go_sem, z0, z1, z2, z3, z4, z5, z6, z7]) rfl ?_; exact HFin.out)
  · have HT := Lib.hid (H3.out rfl)
    clear H3
    go_wp2_with fail
    refine (HT.out _ HA3.out).mono ?_
    rintro e W4 ⟨v3, rfl, hv3, hbb⟩
    obtain ⟨x3, y3, y3', q3, rfl⟩ := hv3.form
    have HX := Lib.hid (Box8.below HX.out hbb (Nat.le_refl _))
    have HZ := Lib.hid (Box8.below HZ.out hbb (Nat.le_refl _))
    have HV2 := Lib.hid (HV2.out.below hbb (Nat.le_refl _))
    have HA4 := Lib.hid (chain1 HA3.out hbb)
    have HS := Lib.hid (HS.out.below hbb (Nat.le_refl _))
    have HV3 := Lib.hid hv3
    obtain ⟨i0, hi, hz0, hz1, hz2⟩ := info_parts info_q
    have hsz : w.heap.size ≤ W4.heap.size := HA4.out.size
    have HSz := Lib.hid hsz
    clear hbb hv3 HXb HA3 HT c0 c1 c2 c3 c4 c5 c6 c7 g0 g1 g2 g3 hsz k0 k1 k2 k3
    go_wp2_with (at_builtin; refine wpList_append_own _ rfl _ _ 91 rfl w.heap.size 26 i0 _ 4 32 Tryz.underlying91 hi hz0 hz1 hz2 rfl (by decide) _ _ _ rfl ((Box.owned HS.out (by have := HBs.out; omega)).alloc _) ⟨W4.heap.size, 0, none⟩ 1 1 [.bool x3, u y3, u y3', .pointer q3] rfl ?qc1 ?qc2 ?qc3 ?qc4 ?qc5 ?qc6 ?_)
    case qc1 => rfl
    case qc2 =>
      intro j v hj
      rcases j with _ | _ | _ | _ | j
      all_goals (simp at hj; try subst hj)
      all_goals exact World.cell?_alloc_new ..
    case qc3 => intro v hv; simp at hv; rcases hv with rfl | rfl | rfl | rfl <;> rfl
    case qc4 => decide
    case qc5 => decide
    case qc6 => have := HSz.out; simp; omega
    intro v' w1 hown hgrow hnil
    have hbx := below1 W4 (.cells #[.bool x3, u y3, u y3', .pointer q3] 26)
    have hNB : ∀ r, (Value.slice (some ⟨bs, 0, none⟩) 1 1).ownBlock = some r → NBox (W4.alloc (.cells #[.bool x3, u y3, u y3', .pointer q3] 26)) r := by
      intro r e
      injection e with e
      subst e
      exact Box.nbox (HS.out.below hbx (Nat.le_refl _))
    have hV2 := (HV2.out.below hbx (Nat.le_refl _)).grown hgrow hNB
    have hV3 := (HV3.out.below hbx (Nat.le_refl _)).grown hgrow hNB
    have hsl : QSl w1 v' (turnVals true r2 r3) := qsl_owned2 hown hV2 hV3
    have hx := (Box8.below HX.out hbx (Nat.le_refl _))
    have hz := (Box8.below HZ.out hbx (Nat.le_refl _))
    have hx1 : Box8 w1 _ _ _ _ _ _ _ _ _ := hx.of_block (hgrow.block _ hx.lt (by intro e; injection e with e; have e : _ = bs := e; have := HBs.out; omega))
    have hzz : ZBox8 w1 _ := Box8.of_block hz (hgrow.block _ (Box8.lt hz) (by intro e; injection e with e; have e : _ = bs := e; have := HBs.out; omega))
    have hA5 : Below w.heap.size w w1 := (chain1 HA4.out hbx).grown hgrow (Nat.le_trans HA4.out.size hbx.size) (by intro k' e; injection e with e; have e : bs = k' := e; have := HBs.out; omega)
    have HSl := Lib.hid hsl
    have HX := Lib.hid hx1
    have HZ := Lib.hid hzz
    have HA5 := Lib.hid hA5
    obtain ⟨ao, cp, rfl, hcp1, hcp2, _⟩ := hsl
    have e2 : (turnVals true r2 r3).length = 2 := rfl
    rw [e2] at HSl ⊢
    (obtain ⟨c0, c1, c2, c3, c4, c5, c6, c7⟩ := HX.out.cells)
    clear hbx hNB hV2 hV3 hx hz hx1 hzz hz1
    clear hA5 hown hgrow hnil HV2 HV3 HS HA4
    clear e2 hcp1 hcp2
    clear hz0 hz2 hi
    go_wp2_with fail
    rw [rounds_succ]
    go_wp2_with fail
    refine (H1.out _ HA5.out).mono ?_
    rintro e W6 ⟨v1, rfl, hv1, hbb⟩
    obtain ⟨x1, y1, y1', q1, rfl⟩ := hv1.form
    have HSl := Lib.hid (HSl.out.below hbb (Nat.le_refl _))
    have HZ := Lib.hid (Box8.below HZ.out hbb (Nat.le_refl _))
    have HA6 := Lib.hid (chain1 HA5.out hbb)
    have HV1 := Lib.hid hv1
    clear hbb hv1 HX HA5 H1 H2 c0 c1 c2 c3 c4 c5 c6 c7
    go_wp2_with fail
    refine (HA.out _ _ _ HV1.out HSl.out).mono ?_
    rintro e W9 ⟨v, rfl, hv, hb⟩
    have hz9 : ZBox8 W9 (w.heap.size + 1) := Box8.below HZ.out hb (Nat.le_refl _)
    have HB9 := Lib.hid (chain1 HA6.out hb)
    clear HZ HA6 HA HSl HV1
    (have hv' := hv; obtain ⟨t1, d1, e1, q1, t2, d2, e2, q2, rfl, _, _⟩ := hv'; have HFin := Lib.hid (SpNew.stored (Box8.nbox hz9) hv HB9.out (by omega) (.bool t1) (u d1) (u e1) (.pointer q1) (.bool t2) (u d2) (u e2) (.pointer q2)); (obtain ⟨z0, z1, z2, z3, z4, z5, z6, z7⟩ := Box8.cells hz9; have zf0 := Box8.frozen hz9 0; have zf1 := Box8.frozen hz9 1; have zf2 := Box8.frozen hz9 2; have zf3 := Box8.frozen hz9 3; have zf4 := Box8.frozen hz9 4; have zf5 := Box8.frozen hz9 5; have zf6 := Box8.frozen hz9 6; have zf7 := Box8.frozen hz9 7); clear hv hz9; clear hb; go_wp2_with fail; refine bodyPost_ret (v := .agg #[.bool t1, u d1, u e1, .pointer q1, .bool t2, u d2, u e2, .pointer q2]) (by simp [results, Tryz.results109, go_sem, z0, z1, z2, z3, z4, z5, z6, z7]) rfl ?_; exact HFin.out)
open Go Go.RowKit Go.Proofs Lim
theorem square1 (v : Value) (r : Rat) (k : Nat) (w : World) (h : IsQ w v r) (z : Siz r k) (hk : (k : Int) ≤ 1073741824) (hG : Gr w) :
    Calls Tryz.prog 110 #[v] w (QNew w (r * r)) := by
  have HT := Lib.hid (fun W (hW : Below w.heap.size w W) => times_q v v r r k W (h.below hW (Nat.le_refl _)) (h.below hW (Nat.le_refl _)) z z hk (hG.below hW hG.size))
  obtain ⟨s1, a1, b1, p1, rfl⟩ := h.form
  clear h z hk hG
  generalize r * r = t at *
  go_enter Tryz.func110, Tryz.ntmps110
  go_wp2_with fail
  obtain ⟨W0, hW0, hb0, hx0, hz⟩ := box2w w (.bool s1) (u a1) (u b1) (.pointer p1); rw [← hW0]; clear hW0; obtain ⟨f0, f1, f2, f3⟩ := hx0.cells; have HZ := Lib.hid hz; have HW0 := Lib.hid hb0; have hb0 := Below.refl W0.heap.size W0; clear hz hx0; have n1 : ¬ w.heap.size = w.heap.size + 1 := (by omega); have n2 : ¬ w.heap.size + 1 = w.heap.size := (by omega)
  refine (HT.out _ (chain1 HW0.out hb0)).mono ?_
  rintro e W9 ⟨v, rfl, hv, hb⟩
  have hb3 := chain1 hb0 hb
  have hv' := hv
  obtain ⟨sg9, a9, b9, p9, rfl⟩ := hv'.form
  have hz := HZ.out.below hb3 (Nat.le_refl _)
  have hfin := QNew.stored (a0 := .bool sg9) (a1 := u a9) (a2 := u b9) (a3 := .pointer p9) hz hv (chain1 HW0.out hb3) (by omega)
  have HFin := Lib.hid hfin
  (have hz := HZ.out.below hb3 (Nat.le_refl _); have zf := hz.frozen; obtain ⟨z0, z1, z2, z3⟩ := hz.cells; have zf0 := zf 0; have zf1 := zf 1; have zf2 := zf 2; have zf3 := zf 3; clear zf hz)
  clear hfin hv hv' hb hb0 hb3 hz HT f0 f1 f2 f3
  go_wp2_with fail
  refine bodyPost_ret (v := .agg #[.bool sg9, u a9, u b9, .pointer p9]) (by simp [results, Tryz.results110, go_sem, z0, z1, z2, z3]) rfl ?_
  exact HFin.out
theorem siz_zero_bits {r : Rat} (k : Nat) (h : Siz r k) : 1 ≤ k := by
  rcases Nat.eq_zero_or_pos k with e | e
  · subst e
    have := h.2
    have := r.den_pos
    rw [Nat.pow_zero] at *
    omega
  · exact e
theorem zero_val (w : World) : IsQ w (.agg #[.bool false, .int .u64 0, .int .u64 0, .pointer none]) 0 := Num.low 0 rfl rfl B_pos (show 1 < B by decide)
theorem square_any (v : Value) (lo hi : Rat) (k : Nat) (w : World) (h : IsS w v lo hi) (z1 : Siz lo k) (z2 : Siz hi k) (hk : ((k + k : Nat) : Int) ≤ 1073741824) (hG : Gr w) :
    Calls Tryz.prog 58 #[v] w (SpNew w (lowOf (lo * lo) (turnVals (hasQ lo hi 0) (hi * hi) (0 * 0))) (highOf (lo * lo) (turnVals (hasQ lo hi 0) (hi * hi) (0 * 0)))) := by
  have k1 := siz_zero_bits k z1
  have z0 : Siz 0 k := Siz.zero k k1
  obtain ⟨s1, a1, b1, p1, s2, a2, b2, p2, rfl, i1, i2⟩ := h
  have HU := Lib.hid (fun bt ct W (hW : Below w.heap.size w W) c0 c1 c2 c3 => under_one 110 #[] #[] (enters_of Tryz.func110 (by kernel_rfl) rfl) s1 s2 a1 b1 a2 b2 p1 p2 lo hi 0 (lo * lo) (hi * hi) (0 * 0) (k + k) W
    bt 0 ct false 0 0 none (i1.below hW (Nat.le_refl _)) (i2.below hW (Nat.le_refl _)) (zero_val W) c0 c1 c2 c3
    (fun W' hW' => square1 _ lo k W' ((i1.below hW (Nat.le_refl _)).below hW' (Nat.le_refl _)) z1 (by omega) ((hG.below hW hG.size).below hW' (Nat.le_trans hG.size hW.size)))
    (fun W' hW' => square1 _ hi k W' ((i2.below hW (Nat.le_refl _)).below hW' (Nat.le_refl _)) z2 (by omega) ((hG.below hW hG.size).below hW' (Nat.le_trans hG.size hW.size)))
    (fun _ W' hW' => square1 _ 0 k W' (zero_val W') z0 (by omega) ((hG.below hW hG.size).below hW' (Nat.le_trans hG.size hW.size)))
    (z1.le (by omega)) (z2.le (by omega)) (z0.le (by omega)) (z1.mul z1) (z2.mul z2) (fun _ => z0.mul z0) hk)
  clear i1 i2 z1 z2 z0 k1 hk hG
  generalize lowOf (lo * lo) (turnVals (hasQ lo hi 0) (hi * hi) (0 * 0)) = l at *
  generalize highOf (lo * lo) (turnVals (hasQ lo hi 0) (hi * hi) (0 * 0)) = g at *
  go_enter Tryz.func58, Tryz.ntmps58
  go_wp2_with fail
  obtain ⟨W0, hW0, hb0, _, hz, hs⟩ := box8z w (.bool s1) (u a1) (u b1) (.pointer p1) (.bool s2) (u a2) (u b2) (.pointer p2)
  rw [hW0]
  have hb1 := below1 W0 (.cells #[.bool false, .int .u64 0, .int .u64 0, .pointer none] 26)
  rw [← hs]
  refine (HU.out _ 1 _ (chain1 hb0 hb1) (World.cell?_alloc_new ..) (World.cell?_alloc_new ..) (World.cell?_alloc_new ..) (World.cell?_alloc_new ..)).mono ?_
  rintro e W9 ⟨v, rfl, hv, hb⟩
  have hz9 : ZBox8 W9 (w.heap.size + 1) := Box8.below (Box8.below hz hb1 (Nat.le_refl _)) hb (Nat.le_refl _)
  have HB9 := Lib.hid (chain1 (chain1 hb0 hb1) hb)
  rw [hs]
  clear hb0 hz hs hW0 HU hb1
  (have hv' := hv; obtain ⟨t1, d1, e1, q1, t2, d2, e2, q2, rfl, _, _⟩ := hv'; have HFin := Lib.hid (SpNew.stored (Box8.nbox hz9) hv HB9.out (by omega) (.bool t1) (u d1) (u e1) (.pointer q1) (.bool t2) (u d2) (u e2) (.pointer q2)); (obtain ⟨z0, z1, z2, z3, z4, z5, z6, z7⟩ := Box8.cells hz9; have zf0 := Box8.frozen hz9 0; have zf1 := Box8.frozen hz9 1; have zf2 := Box8.frozen hz9 2; have zf3 := Box8.frozen hz9 3; have zf4 := Box8.frozen hz9 4; have zf5 := Box8.frozen hz9 5; have zf6 := Box8.frozen hz9 6; have zf7 := Box8.frozen hz9 7); clear hv hz9; clear hb; go_wp2_with fail; refine bodyPost_ret (v := .agg #[.bool t1, u d1, u e1, .pointer q1, .bool t2, u d2, u e2, .pointer q2]) (by simp [results, Tryz.results58, go_sem, z0, z1, z2, z3, z4, z5, z6, z7]) rfl ?_; exact HFin.out)
open Go Go.RowKit Go.Proofs Lim
def quadAt (a b c x : Rat) : Rat := (a * x + b) * x + c
structure Caught (w : World) (b1 b2 b3 : Nat) (s1 s2 s3 : Bool) (x1 y1 x2 y2 x3 y3 : Nat) (p1 p2 p3 : Option Addr) (a b c : Rat) : Prop where
  c1 : Box w b1 (.bool s1) (u x1) (u y1) (.pointer p1)
  c2 : Box w b2 (.bool s2) (u x2) (u y2) (.pointer p2)
  c3 : Box w b3 (.bool s3) (u x3) (u y3) (.pointer p3)
  q1 : IsQ w (.agg #[.bool s1, u x1, u y1, .pointer p1]) a
  q2 : IsQ w (.agg #[.bool s2, u x2, u y2, .pointer p2]) b
  q3 : IsQ w (.agg #[.bool s3, u x3, u y3, .pointer p3]) c
theorem Caught.below {w w' : World} {b1 b2 b3 : Nat} {s1 s2 s3 : Bool} {x1 y1 x2 y2 x3 y3 : Nat} {p1 p2 p3 : Option Addr} {a b c : Rat} {k : Nat} (h : Caught w b1 b2 b3 s1 s2 s3 x1 y1 x2 y2 x3 y3 p1 p2 p3 a b c) (hb : Below k w w') (hk : w.heap.size ≤ k) :
    Caught w' b1 b2 b3 s1 s2 s3 x1 y1 x2 y2 x3 y3 p1 p2 p3 a b c :=
  ⟨h.c1.below hb hk, h.c2.below hb hk, h.c3.below hb hk, h.q1.below hb hk, h.q2.below hb hk, h.q3.below hb hk⟩
set_option maxHeartbeats 1000000 in
theorem quad1 (v : Value) (b1 b2 b3 : Nat) (s1 s2 s3 : Bool) (x1 y1 x2 y2 x3 y3 : Nat) (p1 p2 p3 : Option Addr) (a b c x : Rat) (k : Nat) (w : World) (hc : Caught w b1 b2 b3 s1 s2 s3 x1 y1 x2 y2 x3 y3 p1 p2 p3 a b c) (h : IsQ w v x)
    (za : Siz a k) (zb : Siz b k) (zc : Siz c k) (zx : Siz x k) (hk : ((8 * k + 8 : Nat) : Int) ≤ 1073741824) (hG : Gr w) :
    Calls Tryz.prog 112 #[v, .pointer (some ⟨b1, 0, none⟩), .pointer (some ⟨b2, 0, none⟩), .pointer (some ⟨b3, 0, none⟩)] w (QNew w (quadAt a b c x)) := by
  have w1 := za.mul zx
  have w2 := w1.add zb
  have w3 := (w2.le (show k + k + k + 1 ≤ 4 * k + 1 by omega)).mul (zx.le (show k ≤ 4 * k + 1 by omega))
  have HT1 := Lib.hid (fun W (hW : Below w.heap.size w W) => times_q _ v a x k W (hc.q1.below hW (Nat.le_refl _)) (h.below hW (Nat.le_refl _)) za zx (by omega) (hG.below hW hG.size))
  have HP1 := Lib.hid (fun y W (hy : IsQ W y (a * x)) (hW : Below w.heap.size w W) => plus_q y _ (a * x) b (k + k) W hy (hc.q2.below hW (Nat.le_refl _)) w1 (zb.le (by omega)) (by omega) (hG.below hW hG.size))
  have HT2 := Lib.hid (fun y W (hy : IsQ W y (a * x + b)) (hW : Below w.heap.size w W) => times_q y v (a * x + b) x (k + k + k + 1) W hy (h.below hW (Nat.le_refl _)) w2 (zx.le (by omega)) (by omega) (hG.below hW hG.size))
  have w3' := w2.mul zx
  have HP2 := Lib.hid (fun y W (hy : IsQ W y ((a * x + b) * x)) (hW : Below w.heap.size w W) => plus_q y _ ((a * x + b) * x) c (k + k + k + 1 + k) W hy (hc.q3.below hW (Nat.le_refl _)) w3' (zc.le (by omega)) (by omega) (hG.below hW hG.size))
  obtain ⟨s, d, e, p, rfl⟩ := h.form
  have HC := Lib.hid hc
  unfold quadAt
  have m1 : b1 < w.heap.size := (Array.getElem?_eq_some_iff.1 hc.c1).1
  have m2 : b2 < w.heap.size := (Array.getElem?_eq_some_iff.1 hc.c2).1
  have m3 : b3 < w.heap.size := (Array.getElem?_eq_some_iff.1 hc.c3).1
  clear h hc w1 w2 w3 w3' za zb zc zx hk hG
  generalize a * x = r1 at *
  generalize r1 + b = r2 at *
  generalize r2 * x = r3 at *
  generalize r3 + c = r4 at *
  go_enter Tryz.func112, Tryz.ntmps112
  go_wp2_with fail
  obtain ⟨W0, hW0, hb0, hx0, hz⟩ := box2w w (.bool s) (u d) (u e) (.pointer p); rw [← hW0]; clear hW0; obtain ⟨f0, f1, f2, f3⟩ := hx0.cells; have HZ := Lib.hid hz; have HW0 := Lib.hid hb0; have hb0 := Below.refl W0.heap.size W0; clear hz hx0; have n1 : ¬ w.heap.size = w.heap.size + 1 := (by omega); have n2 : ¬ w.heap.size + 1 = w.heap.size := (by omega)
  have hc0 := HC.out.below HW0.out (Nat.le_refl _)
  have HC0 := Lib.hid hc0
  obtain ⟨g0, g1, g2, g3⟩ := hc0.c1.cells
  obtain ⟨h0, h1, h2, h3⟩ := hc0.c2.cells
  obtain ⟨i0, i1, i2, i3⟩ := hc0.c3.cells
  clear hc0
  have n3 : ¬ b1 = w.heap.size + 1 := by omega
  have n4 : ¬ w.heap.size + 1 = b1 := by omega
  have n5 : ¬ b2 = w.heap.size + 1 := by omega
  have n6 : ¬ w.heap.size + 1 = b2 := by omega
  have n7 : ¬ b3 = w.heap.size + 1 := by omega
  have n8 : ¬ w.heap.size + 1 = b3 := by omega
  go_region_held3 (fun w' => (w'.cell? ⟨w.heap.size, 0, none⟩ = some (.bool s) ∧ w'.cell? ⟨w.heap.size, 1, none⟩ = some (u d) ∧ w'.cell? ⟨w.heap.size, 2, none⟩ = some (u e) ∧ w'.cell? ⟨w.heap.size, 3, none⟩ = some (.pointer p)) ∧ (w'.cell? ⟨b1, 0, none⟩ = some (.bool s1) ∧ w'.cell? ⟨b1, 1, none⟩ = some (u x1) ∧ w'.cell? ⟨b1, 2, none⟩ = some (u y1) ∧ w'.cell? ⟨b1, 3, none⟩ = some (.pointer p1)) ∧ (w'.cell? ⟨b2, 0, none⟩ = some (.bool s2) ∧ w'.cell? ⟨b2, 1, none⟩ = some (u x2) ∧ w'.cell? ⟨b2, 2, none⟩ = some (u y2) ∧ w'.cell? ⟨b2, 3, none⟩ = some (.pointer p2)) ∧ (w'.cell? ⟨b3, 0, none⟩ = some (.bool s3) ∧ w'.cell? ⟨b3, 1, none⟩ = some (u x3) ∧ w'.cell? ⟨b3, 2, none⟩ = some (u y3) ∧ w'.cell? ⟨b3, 3, none⟩ = some (.pointer p3))) (go_keep) (first | ((with_reducible refine (HT1.out _ HW0.out.drew).mono ?_); rintro e W1 ⟨v1, rfl, hv1, hb⟩; obtain ⟨_, _, _, _, rfl⟩ := hv1.form; (have hh := boxq (b := w.heap.size) hb f0 f1 f2 f3; clear f0 f1 f2 f3; obtain ⟨f0, f1, f2, f3⟩ := hh); have hb0 : Below W0.heap.size W0 W1 := (by first | exact chain hb0 hb | exact chain1 hb0 hb); have hcc := HC0.out.below hb0 (Nat.le_refl _); clear g0 g1 g2 g3 h0 h1 h2 h3 i0 i1 i2 i3; obtain ⟨g0, g1, g2, g3⟩ := hcc.c1.cells; obtain ⟨h0, h1, h2, h3⟩ := hcc.c2.cells; obtain ⟨i0, i1, i2, i3⟩ := hcc.c3.cells; clear hcc hb) | ((with_reducible refine (HP1.out _ _ hv1 (chain1 HW0.out hb0)).mono ?_); rintro e W2 ⟨v2, rfl, hv2, hb⟩; obtain ⟨_, _, _, _, rfl⟩ := hv2.form; (have hh := boxq (b := w.heap.size) hb f0 f1 f2 f3; clear f0 f1 f2 f3; obtain ⟨f0, f1, f2, f3⟩ := hh); have hb0 : Below W0.heap.size W0 W2 := (by first | exact chain hb0 hb | exact chain1 hb0 hb); have hcc := HC0.out.below hb0 (Nat.le_refl _); clear g0 g1 g2 g3 h0 h1 h2 h3 i0 i1 i2 i3; obtain ⟨g0, g1, g2, g3⟩ := hcc.c1.cells; obtain ⟨h0, h1, h2, h3⟩ := hcc.c2.cells; obtain ⟨i0, i1, i2, i3⟩ := hcc.c3.cells; clear hcc hb) | ((with_reducible refine (HT2.out _ _ hv2 (chain1 HW0.out hb0)).mono ?_); rintro e W3 ⟨v3, rfl, hv3, hb⟩; obtain ⟨_, _, _, _, rfl⟩ := hv3.form; (have hh := boxq (b := w.heap.size) hb f0 f1 f2 f3; clear f0 f1 f2 f3; obtain ⟨f0, f1, f2, f3⟩ := hh); have hb0 : Below W0.heap.size W0 W3 := (by first | exact chain hb0 hb | exact chain1 hb0 hb); have hcc := HC0.out.below hb0 (Nat.le_refl _); clear g0 g1 g2 g3 h0 h1 h2 h3 i0 i1 i2 i3; obtain ⟨g0, g1, g2, g3⟩ := hcc.c1.cells; obtain ⟨h0, h1, h2, h3⟩ := hcc.c2.cells; obtain ⟨i0, i1, i2, i3⟩ := hcc.c3.cells; clear hcc hb) | ((with_reducible refine (HP2.out _ _ hv3 (chain1 HW0.out hb0)).mono ?_); rintro e W4 ⟨v4, rfl, hv4, hb⟩; have hv' := hv4; obtain ⟨sg9, a9, b9, p9, rfl⟩ := hv'.form; (have hh := boxq (b := w.heap.size) hb f0 f1 f2 f3; clear f0 f1 f2 f3; obtain ⟨f0, f1, f2, f3⟩ := hh); have hb0 : Below W0.heap.size W0 W4 := (by first | exact chain hb0 hb | exact chain1 hb0 hb); have hcc := HC0.out.below hb0 (Nat.le_refl _); clear g0 g1 g2 g3 h0 h1 h2 h3 i0 i1 i2 i3; obtain ⟨g0, g1, g2, g3⟩ := hcc.c1.cells; obtain ⟨h0, h1, h2, h3⟩ := hcc.c2.cells; obtain ⟨i0, i1, i2, i3⟩ := hcc.c3.cells; clear hcc hb; (have hz := HZ.out.below hb0 (Nat.le_refl _); have zf := hz.frozen; obtain ⟨z0, z1, z2, z3⟩ := hz.cells; have zf0 := zf 0; have zf1 := zf 1; have zf2 := zf 2; have zf3 := zf 3; clear zf hz)))
  have hz := HZ.out.below hb0 (Nat.le_refl _)
  have hfin := QNew.stored (a0 := .bool sg9) (a1 := u a9) (a2 := u b9) (a3 := .pointer p9) hz hv4 (chain1 HW0.out hb0) (by omega)
  have HFin := Lib.hid hfin
  clear hfin hv1 hv2 hv3 hv4 hv' hb0 hz f0 f1 f2 f3 g0 g1 g2 g3 h0 h1 h2 h3 i0 i1 i2 i3
  go_wp2_with fail
  refine bodyPost_ret (v := .agg #[.bool sg9, u a9, u b9, .pointer p9]) (by simp [results, Tryz.results112, go_sem, z0, z1, z2, z3]) rfl ?_
  exact HFin.out
open Go Go.RowKit Go.Proofs Lim
def turnOf (a b : Rat) : Rat := -b * (a + a)⁻¹
def quadVals (a b c lo hi : Rat) : List Rat := if a.num = 0 then [quadAt a b c hi] else turnVals (hasQ lo hi (turnOf a b)) (quadAt a b c hi) (quadAt a b c (turnOf a b))
theorem box38z (w : World) (a0 a1 a2 a3 b0 b1 b2 b3 c0 c1 c2 c3 d0 d1 d2 d3 d4 d5 d6 d7 : Value) : ∃ W, ((((w.alloc (.cells #[a0, a1, a2, a3] 26)).alloc (.cells #[b0, b1, b2, b3] 26)).alloc (.cells #[c0, c1, c2, c3] 26)).alloc (.cells #[d0, d1, d2, d3, d4, d5, d6, d7] 66)).alloc (.cells #[.bool false, .int .u64 0, .int .u64 0, .pointer none, .bool false, .int .u64 0, .int .u64 0, .pointer none] 66) = W ∧
    Below w.heap.size w W ∧ Box W w.heap.size a0 a1 a2 a3 ∧ Box W (w.heap.size + 1) b0 b1 b2 b3 ∧ Box W (w.heap.size + 1 + 1) c0 c1 c2 c3 ∧ Box8 W (w.heap.size + 1 + 1 + 1) d0 d1 d2 d3 d4 d5 d6 d7 ∧ ZBox8 W (w.heap.size + 1 + 1 + 1 + 1) ∧ W.heap.size = w.heap.size + 1 + 1 + 1 + 1 + 1 := by
  obtain ⟨W1, hW1, hb1, h1, h2, hs1⟩ := box2b w a0 a1 a2 a3 b0 b1 b2 b3
  have hb2 := below1 W1 (.cells #[c0, c1, c2, c3] 26)
  have h3 : Box _ W1.heap.size c0 c1 c2 c3 := heap_alloc_new W1 (.cells #[c0, c1, c2, c3] 26)
  have hs2 : (W1.alloc (.cells #[c0, c1, c2, c3] 26)).heap.size = w.heap.size + 1 + 1 + 1 := by rw [World.size_alloc, hs1]
  rw [hs1] at h3
  rw [hW1]
  generalize W1.alloc (.cells #[c0, c1, c2, c3] 26) = W2 at *
  obtain ⟨W3, hW3, hb3, h4, h5, hs3⟩ := box8z W2 d0 d1 d2 d3 d4 d5 d6 d7
  rw [hs2] at h4 h5 hs3
  exact ⟨W3, hW3, chain1 (chain1 hb1 hb2) hb3, (h1.below hb2 (Nat.le_refl _)).below hb3 (Nat.le_refl _), (h2.below hb2 (Nat.le_refl _)).below hb3 (Nat.le_refl _), h3.below hb3 (Nat.le_refl _), h4, h5, hs3⟩
theorem quad_siz {a b c x : Rat} {k : Nat} (za : Siz a k) (zb : Siz b k) (zc : Siz c k) (zx : Siz x k) : Siz (quadAt a b c x) (5 * k + 2) :=
  (((((za.mul zx).add zb).mul zx).add zc)).le (by omega)
theorem turn_siz {a b : Rat} {k : Nat} (za : Siz a k) (zb : Siz b k) (h : (a + a).num ≠ 0) : Siz (turnOf a b) (3 * k + 1) :=
  (zb.neg.mul ((za.add za).inv h)).le (by omega)
theorem double_ne {a : Rat} (h : a.num ≠ 0) : (a + a).num ≠ 0 := by
  intro e
  have h2 : a + a = 0 := Rat.num_eq_zero.1 e
  have h3 : a * 2 = 0 := by
    rw [← h2]
    grind
  rcases Rat.mul_eq_zero.1 h3 with h4 | h4
  · exact h (by rw [h4]; rfl)
  · exact absurd h4 (by decide)
set_option maxHeartbeats 2000000 in
theorem quadratic_any (va vb vc vs : Value) (a b c lo hi : Rat) (k : Nat) (w : World) (ha : IsQ w va a) (hb : IsQ w vb b) (hc : IsQ w vc c) (hs : IsS w vs lo hi)
    (za : Siz a k) (zb : Siz b k) (zc : Siz c k) (zl : Siz lo k) (zh : Siz hi k) (hk : ((100 * k + 100 : Nat) : Int) ≤ 1073741824) (hG : Gr w) :
    Calls Tryz.prog 70 #[va, vb, vc, vs] w (SpNew w (lowOf (quadAt a b c lo) (quadVals a b c lo hi)) (highOf (quadAt a b c lo) (quadVals a b c lo hi))) := by
  obtain ⟨s1, x1, y1, p1, rfl⟩ := ha.form
  obtain ⟨s2, x2, y2, p2, rfl⟩ := hb.form
  obtain ⟨s3, x3, y3, p3, rfl⟩ := hc.form
  obtain ⟨s4, x4, y4, p4, s5, x5, y5, p5, rfl, hl, hh⟩ := hs
  have HQ := Lib.hid (fun W (hW : Below w.heap.size w W) (e1 : Box W w.heap.size (.bool s1) (u x1) (u y1) (.pointer p1)) (e2 : Box W (w.heap.size + 1) (.bool s2) (u x2) (u y2) (.pointer p2)) (e3 : Box W (w.heap.size + 1 + 1) (.bool s3) (u x3) (u y3) (.pointer p3)) =>
    (⟨e1, e2, e3, ha.below hW (Nat.le_refl _), hb.below hW (Nat.le_refl _), hc.below hW (Nat.le_refl _)⟩ : Caught W w.heap.size (w.heap.size + 1) (w.heap.size + 1 + 1) s1 s2 s3 x1 y1 x2 y2 x3 y3 p1 p2 p3 a b c))
  have HF := Lib.hid (fun v x j W (hca : Caught W w.heap.size (w.heap.size + 1) (w.heap.size + 1 + 1) s1 s2 s3 x1 y1 x2 y2 x3 y3 p1 p2 p3 a b c) (hv : IsQ W v x) (zx : Siz x j) (hj : k ≤ j) (hj2 : j ≤ 3 * k + 1) (hW : Below w.heap.size w W) =>
    quad1 v w.heap.size (w.heap.size + 1) (w.heap.size + 1 + 1) s1 s2 s3 x1 y1 x2 y2 x3 y3 p1 p2 p3 a b c x j W hca hv (za.le hj) (zb.le hj) (zc.le hj) zx (by omega) (hG.below hW hG.size))
  have HSg := Lib.hid (fun W (hW : Below w.heap.size w W) => sign_q _ a W (ha.below hW (Nat.le_refl _)))
  have HL := Lib.hid (And.intro hl hh)
  by_cases h0 : a.num = 0
  · have hv : quadVals a b c lo hi = [quadAt a b c hi] := by unfold quadVals; rw [if_pos h0]
    rw [hv]
    have HU := Lib.hid (fun W W0 (hW : Below w.heap.size w W) (hca : Caught W w.heap.size (w.heap.size + 1) (w.heap.size + 1 + 1) s1 s2 s3 x1 y1 x2 y2 x3 y3 p1 p2 p3 a b c) (_ : W0 = W) =>
      under_none 112 #[] #[.pointer (some ⟨w.heap.size, 0, none⟩), .pointer (some ⟨w.heap.size + 1, 0, none⟩), .pointer (some ⟨w.heap.size + 1 + 1, 0, none⟩)] (enters_of Tryz.func112 (by kernel_rfl) rfl) s4 s5 x4 y4 x5 y5 p4 p5 (quadAt a b c lo) (quadAt a b c hi) 0 (5 * k + 2) W
      (fun W' hW' => HF.out _ lo k W' (hca.below hW' (Nat.le_refl _)) ((hl.below hW (Nat.le_refl _)).below hW' (Nat.le_refl _)) zl (Nat.le_refl _) (by omega) (hW.trans (hW'.mono hW.size)))
      (fun W' hW' => HF.out _ hi k W' (hca.below hW' (Nat.le_refl _)) ((hh.below hW (Nat.le_refl _)).below hW' (Nat.le_refl _)) zh (Nat.le_refl _) (by omega) (hW.trans (hW'.mono hW.size)))
      (quad_siz za zb zc zl) (quad_siz za zb zc zh) (by omega))
    have hsg : ((sign a : Int) == 0) = true := by unfold sign; rw [if_pos h0]; rfl
    clear ha hb hc hl hh hG za zb zc zl zh hk hv h0 HF
    generalize quadAt a b c lo = l at *
    generalize quadAt a b c hi = g at *
    generalize lowOf l [g] = lw at *
    generalize highOf l [g] = hg at *
    generalize sign a = sv at *
    go_enter Tryz.func70, Tryz.ntmps70
    go_wp2_with fail
    obtain ⟨W0, hW0, hb0, e1, e2, e3, e4, hz, hs⟩ := box38z w (.bool s1) (u x1) (u y1) (.pointer p1) (.bool s2) (u x2) (u y2) (.pointer p2) (.bool s3) (u x3) (u y3) (.pointer p3) (.bool s4) (u x4) (u y4) (.pointer p4) (.bool s5) (u x5) (u y5) (.pointer p5)
    rw [hW0]
    have HCa := Lib.hid (HQ.out W0 hb0 e1 e2 e3)
    refine (HSg.out _ hb0).mono ?_
    rintro e W1 ⟨rfl, hbb⟩
    have HCa := Lib.hid (HCa.out.below hbb (Nat.le_refl _))
    have HB1 := Lib.hid (chain1 hb0 hbb)
    have hX := Box8.below e4 hbb (Nat.le_refl _)
    have HZ := Lib.hid (Box8.below hz hbb (Nat.le_refl _))
    (obtain ⟨c0, c1, c2, c3, c4, c5, c6, c7⟩ := hX.cells)
    clear hX hbb hb0 e1 e2 e3 e4 hz hs hW0 HSg HQ
    go_wp2_with fail
    refine (HU.out _ _ HB1.out HCa.out rfl).mono ?_
    rintro e W9 ⟨v, rfl, hv, hb⟩
    have hz9 : ZBox8 W9 (w.heap.size + 1 + 1 + 1 + 1) := Box8.below HZ.out hb (Nat.le_refl _)
    have HB9 := Lib.hid (chain1 HB1.out hb)
    clear HZ HB1 HCa HU c0 c1 c2 c3 c4 c5 c6 c7
    (have hv' := hv; obtain ⟨t1, d1, e1, q1, t2, d2, e2, q2, rfl, _, _⟩ := hv'; have HFin := Lib.hid (SpNew.stored (Box8.nbox hz9) hv HB9.out (by omega) (.bool t1) (u d1) (u e1) (.pointer q1) (.bool t2) (u d2) (u e2) (.pointer q2)); (obtain ⟨z0, z1, z2, z3, z4, z5, z6, z7⟩ := Box8.cells hz9; have zf0 := Box8.frozen hz9 0; have zf1 := Box8.frozen hz9 1; have zf2 := Box8.frozen hz9 2; have zf3 := Box8.frozen hz9 3; have zf4 := Box8.frozen hz9 4; have zf5 := Box8.frozen hz9 5; have zf6 := Box8.frozen hz9 6; have zf7 := Box8.frozen hz9 7); clear hv hz9; clear hb; go_wp2_with fail; refine bodyPost_ret (v := .agg #[.bool t1, u d1, u e1, .pointer q1, .bool t2, u d2, u e2, .pointer q2]) (by simp [results, Tryz.results70, go_sem, z0, z1, z2, z3, z4, z5, z6, z7]) rfl ?_; exact HFin.out)
  · have hv : quadVals a b c lo hi = turnVals (hasQ lo hi (turnOf a b)) (quadAt a b c hi) (quadAt a b c (turnOf a b)) := by unfold quadVals; rw [if_neg h0]
    rw [hv]
    have hd := double_ne h0
    have zt := turn_siz za zb hd
    have HU := Lib.hid (fun bt ct s6 x6 y6 p6 W (hW : Below w.heap.size w W) (hca : Caught W w.heap.size (w.heap.size + 1) (w.heap.size + 1 + 1) s1 s2 s3 x1 y1 x2 y2 x3 y3 p1 p2 p3 a b c) (ht : IsQ W (.agg #[.bool s6, u x6, u y6, .pointer p6]) (turnOf a b)) c0 c1 c2 c3 =>
      under_one 112 #[] #[.pointer (some ⟨w.heap.size, 0, none⟩), .pointer (some ⟨w.heap.size + 1, 0, none⟩), .pointer (some ⟨w.heap.size + 1 + 1, 0, none⟩)] (enters_of Tryz.func112 (by kernel_rfl) rfl) s4 s5 x4 y4 x5 y5 p4 p5 lo hi (turnOf a b) (quadAt a b c lo) (quadAt a b c hi) (quadAt a b c (turnOf a b)) (5 * (3 * k + 1) + 2) W
      bt 0 ct s6 x6 y6 p6 (hl.below hW (Nat.le_refl _)) (hh.below hW (Nat.le_refl _)) ht c0 c1 c2 c3
      (fun W' hW' => HF.out _ lo k W' (hca.below hW' (Nat.le_refl _)) ((hl.below hW (Nat.le_refl _)).below hW' (Nat.le_refl _)) zl (Nat.le_refl _) (by omega) (hW.trans (hW'.mono hW.size)))
      (fun W' hW' => HF.out _ hi k W' (hca.below hW' (Nat.le_refl _)) ((hh.below hW (Nat.le_refl _)).below hW' (Nat.le_refl _)) zh (Nat.le_refl _) (by omega) (hW.trans (hW'.mono hW.size)))
      (fun _ W' hW' => HF.out _ (turnOf a b) (3 * k + 1) W' (hca.below hW' (Nat.le_refl _)) (ht.below hW' (Nat.le_refl _)) zt (by omega) (Nat.le_refl _) (hW.trans (hW'.mono hW.size)))
      (zl.le (by omega)) (zh.le (by omega)) (zt.le (by omega)) ((quad_siz za zb zc zl).le (by omega)) ((quad_siz za zb zc zh).le (by omega)) (fun _ => quad_siz (za.le (by omega)) (zb.le (by omega)) (zc.le (by omega)) zt) (by omega))
    have HN := Lib.hid (fun W (hW : Below w.heap.size w W) => neg_q _ b W (hb.below hW (Nat.le_refl _)))
    have HP := Lib.hid (fun W (hW : Below w.heap.size w W) => plus_q _ _ a a k W (ha.below hW (Nat.le_refl _)) (ha.below hW (Nat.le_refl _)) za za (by omega) (hG.below hW hG.size))
    have HR := Lib.hid (fun v W (hv : IsQ W v (a + a)) => recip_q v _ W hv hd)
    have HT := Lib.hid (fun v1 v2 W (h1 : IsQ W v1 (-b)) (h2 : IsQ W v2 (a + a)⁻¹) (hW : Below w.heap.size w W) => show Calls Tryz.prog 29 #[v1, v2] W (QNew W (turnOf a b)) from times_q v1 v2 (-b) (a + a)⁻¹ (k + k + 1) W h1 h2 (zb.neg.le (by omega)) ((za.add za).inv hd) (by omega) (hG.below hW hG.size))
    have hsg : ((sign a : Int) == 0) = false := by unfold sign; rw [if_neg h0]; split <;> rfl
    clear ha hb hc hl hh hG za zb zc zl zh hk hv h0 HF zt hd
    generalize turnOf a b = t at *
    generalize hasQ lo hi t = hq at *
    generalize quadAt a b c lo = l at *
    generalize quadAt a b c hi = g at *
    generalize quadAt a b c t = g2 at *
    generalize lowOf l (turnVals hq g g2) = lw at *
    generalize highOf l (turnVals hq g g2) = hg at *
    generalize sign a = sv at *
    generalize (a + a)⁻¹ = ri at *
    generalize a + a = aa at *
    generalize -b = nb at *
    go_enter Tryz.func70, Tryz.ntmps70
    go_wp2_with fail
    obtain ⟨W0, hW0, hb0, e1, e2, e3, e4, hz, hs⟩ := box38z w (.bool s1) (u x1) (u y1) (.pointer p1) (.bool s2) (u x2) (u y2) (.pointer p2) (.bool s3) (u x3) (u y3) (.pointer p3) (.bool s4) (u x4) (u y4) (.pointer p4) (.bool s5) (u x5) (u y5) (.pointer p5)
    rw [hW0]
    have HCa := Lib.hid (HQ.out W0 hb0 e1 e2 e3)
    refine (HSg.out _ hb0).mono ?_
    rintro e W1 ⟨rfl, hbb⟩
    have HCa := Lib.hid (HCa.out.below hbb (Nat.le_refl _))
    have HB1 := Lib.hid (chain1 hb0 hbb)
    have hX := Box8.below e4 hbb (Nat.le_refl _)
    have HX := Lib.hid hX
    have HZ := Lib.hid (Box8.below hz hbb (Nat.le_refl _))
    have HC1 := Lib.hid HCa.out.c1
    have HC2 := Lib.hid HCa.out.c2
    obtain ⟨g0, g1, g2', g3⟩ := HC1.out.cells
    obtain ⟨h0, h1, h2, h3⟩ := HC2.out.cells
    (obtain ⟨c0, c1, c2, c3, c4, c5, c6, c7⟩ := hX.cells)
    have n1 : ¬ w.heap.size = w.heap.size + 1 + 1 + 1 + 1 := by omega
    have n2 : ¬ w.heap.size + 1 + 1 + 1 + 1 = w.heap.size := by omega
    have n3 : ¬ w.heap.size + 1 = w.heap.size + 1 + 1 + 1 + 1 := by omega
    have n4 : ¬ w.heap.size + 1 + 1 + 1 + 1 = w.heap.size + 1 := by omega
    have n5 : ¬ w.heap.size + 1 + 1 + 1 = w.heap.size + 1 + 1 + 1 + 1 := by omega
    have n6 : ¬ w.heap.size + 1 + 1 + 1 + 1 = w.heap.size + 1 + 1 + 1 := by omega
    have n7 : ¬ w.heap.size = w.heap.size + 1 + 1 + 1 := by omega
    have n8 : ¬ w.heap.size + 1 + 1 + 1 = w.heap.size := by omega
    clear hX hbb hb0 e1 e2 e3 e4 hz hs hW0 HSg HQ
    have hb0 := Below.refl W1.heap.size W1
    go_wp2_with fail
    go_region_held3 (fun w' => (w'.cell? ⟨w.heap.size, 0, none⟩ = some (.bool s1) ∧ w'.cell? ⟨w.heap.size, 1, none⟩ = some (u x1) ∧ w'.cell? ⟨w.heap.size, 2, none⟩ = some (u y1) ∧ w'.cell? ⟨w.heap.size, 3, none⟩ = some (.pointer p1)) ∧ (w'.cell? ⟨w.heap.size + 1, 0, none⟩ = some (.bool s2) ∧ w'.cell? ⟨w.heap.size + 1, 1, none⟩ = some (u x2) ∧ w'.cell? ⟨w.heap.size + 1, 2, none⟩ = some (u y2) ∧ w'.cell? ⟨w.heap.size + 1, 3, none⟩ = some (.pointer p2)) ∧ (w'.cell? ⟨w.heap.size + 1 + 1 + 1, 0, none⟩ = some (.bool s4) ∧ w'.cell? ⟨w.heap.size + 1 + 1 + 1, 1, none⟩ = some (u x4) ∧ w'.cell? ⟨w.heap.size + 1 + 1 + 1, 2, none⟩ = some (u y4) ∧ w'.cell? ⟨w.heap.size + 1 + 1 + 1, 3, none⟩ = some (.pointer p4) ∧ w'.cell? ⟨w.heap.size + 1 + 1 + 1, 4, none⟩ = some (.bool s5) ∧ w'.cell? ⟨w.heap.size + 1 + 1 + 1, 5, none⟩ = some (u x5) ∧ w'.cell? ⟨w.heap.size + 1 + 1 + 1, 6, none⟩ = some (u y5) ∧ w'.cell? ⟨w.heap.size + 1 + 1 + 1, 7, none⟩ = some (.pointer p5))) (go_keep) (first | ((with_reducible refine (HN.out _ HB1.out.drew).mono ?_); rintro e W2 ⟨v2, rfl, hv2, hb⟩; obtain ⟨_, _, _, _, rfl⟩ := hv2.form; have hb0 : Below W1.heap.size W1 W2 := (by first | exact chain hb0 hb | exact chain1 hb0 hb); clear g0 g1 g2' g3 h0 h1 h2 h3 c0 c1 c2 c3 c4 c5 c6 c7; obtain ⟨g0, g1, g2', g3⟩ := (HC1.out.below hb0 (Nat.le_refl _)).cells; obtain ⟨h0, h1, h2, h3⟩ := (HC2.out.below hb0 (Nat.le_refl _)).cells; have hX := Box8.below HX.out hb0 (Nat.le_refl _); (obtain ⟨c0, c1, c2, c3, c4, c5, c6, c7⟩ := hX.cells); clear hX hb) | ((with_reducible refine (HP.out _ (chain1 HB1.out hb0)).mono ?_); rintro e W3 ⟨v3, rfl, hv3, hb⟩; obtain ⟨_, _, _, _, rfl⟩ := hv3.form; have hv2 := hv2.below hb (Nat.le_refl _); have hb0 : Below W1.heap.size W1 W3 := (by first | exact chain hb0 hb | exact chain1 hb0 hb); clear g0 g1 g2' g3 h0 h1 h2 h3 c0 c1 c2 c3 c4 c5 c6 c7; obtain ⟨g0, g1, g2', g3⟩ := (HC1.out.below hb0 (Nat.le_refl _)).cells; obtain ⟨h0, h1, h2, h3⟩ := (HC2.out.below hb0 (Nat.le_refl _)).cells; have hX := Box8.below HX.out hb0 (Nat.le_refl _); (obtain ⟨c0, c1, c2, c3, c4, c5, c6, c7⟩ := hX.cells); clear hX hb) | ((with_reducible refine (HR.out _ _ hv3).mono ?_); rintro e W4 ⟨v4, rfl, hv4, hb⟩; obtain ⟨_, _, _, _, rfl⟩ := hv4.form; have hv2 := hv2.below hb (Nat.le_refl _); have hb0 : Below W1.heap.size W1 W4 := (by first | exact chain hb0 hb | exact chain1 hb0 hb); clear g0 g1 g2' g3 h0 h1 h2 h3 c0 c1 c2 c3 c4 c5 c6 c7; obtain ⟨g0, g1, g2', g3⟩ := (HC1.out.below hb0 (Nat.le_refl _)).cells; obtain ⟨h0, h1, h2, h3⟩ := (HC2.out.below hb0 (Nat.le_refl _)).cells; have hX := Box8.below HX.out hb0 (Nat.le_refl _); (obtain ⟨c0, c1, c2, c3, c4, c5, c6, c7⟩ := hX.cells); clear hX hb) | ((with_reducible refine (HT.out _ _ _ hv2 hv4 (chain1 HB1.out hb0)).mono ?_); rintro e W5 ⟨v5, rfl, hv5, hb⟩; obtain ⟨s6, x6, y6, p6, rfl⟩ := hv5.form; have hb0 : Below W1.heap.size W1 W5 := (by first | exact chain hb0 hb | exact chain1 hb0 hb); clear g0 g1 g2' g3 h0 h1 h2 h3 c0 c1 c2 c3 c4 c5 c6 c7; obtain ⟨g0, g1, g2', g3⟩ := (HC1.out.below hb0 (Nat.le_refl _)).cells; obtain ⟨h0, h1, h2, h3⟩ := (HC2.out.below hb0 (Nat.le_refl _)).cells; have hX := Box8.below HX.out hb0 (Nat.le_refl _); (obtain ⟨c0, c1, c2, c3, c4, c5, c6, c7⟩ := hX.cells); clear hX hb) | ((with_reducible refine (HU.out _ 1 _ _ _ _ _ (chain1 (chain1 HB1.out hb0) (below1 W5 _)) (HCa.out.below (chain1 hb0 (below1 W5 _)) (Nat.le_refl _)) (hv5.below (below1 W5 _) (Nat.le_refl _)) (World.cell?_alloc_new ..) (World.cell?_alloc_new ..) (World.cell?_alloc_new ..) (World.cell?_alloc_new ..)).mono ?_); rintro e W9 ⟨v, rfl, hv, hb'⟩; have hb := chain1 (below1 W5 _) hb'; clear hb'; have hb0 : Below W1.heap.size W1 W9 := (by first | exact chain hb0 hb | exact chain1 hb0 hb); clear g0 g1 g2' g3 h0 h1 h2 h3 c0 c1 c2 c3 c4 c5 c6 c7; obtain ⟨g0, g1, g2', g3⟩ := (HC1.out.below hb0 (Nat.le_refl _)).cells; obtain ⟨h0, h1, h2, h3⟩ := (HC2.out.below hb0 (Nat.le_refl _)).cells; have hX := Box8.below HX.out hb0 (Nat.le_refl _); (obtain ⟨c0, c1, c2, c3, c4, c5, c6, c7⟩ := hX.cells); clear hX hb; have hv' := hv; obtain ⟨t1, d1, e1, q1, t2, d2, e2, q2, rfl, _, _⟩ := hv'; have hz9 := Box8.below HZ.out hb0 (Nat.le_refl _); (obtain ⟨z0, z1, z2, z3, z4, z5, z6, z7⟩ := Box8.cells hz9; have zf0 := Box8.frozen hz9 0; have zf1 := Box8.frozen hz9 1; have zf2 := Box8.frozen hz9 2; have zf3 := Box8.frozen hz9 3; have zf4 := Box8.frozen hz9 4; have zf5 := Box8.frozen hz9 5; have zf6 := Box8.frozen hz9 6; have zf7 := Box8.frozen hz9 7)))
    have HFin := Lib.hid (SpNew.stored (Box8.nbox hz9) hv (chain1 HB1.out hb0) (by omega) (.bool t1) (u d1) (u e1) (.pointer q1) (.bool t2) (u d2) (u e2) (.pointer q2))
    clear hv hz9 hb0 hv2 hv3 hv4 hv5 c0 c1 c2 c3 c4 c5 c6 c7 g0 g1 g2' g3 h0 h1 h2 h3
    go_wp2_with fail
    refine bodyPost_ret (v := .agg #[.bool t1, u d1, u e1, .pointer q1, .bool t2, u d2, u e2, .pointer q2]) (by simp [results, Tryz.results70, go_sem, z0, z1, z2, z3, z4, z5, z6, z7]) rfl ?_
    exact HFin.out
open Go Go.RowKit Go.Proofs Lim
def Btw (a b x : Rat) : Prop := (a ≤ x ∧ x ≤ b) ∨ (b ≤ x ∧ x ≤ a)
theorem Btw.left (a b : Rat) : Btw a b a := by
  rcases (Rat.le_total : a ≤ b ∨ b ≤ a) with h | h
  · exact .inl ⟨Rat.le_refl, h⟩
  · exact .inr ⟨h, Rat.le_refl⟩
theorem Btw.right (a b : Rat) : Btw a b b := by
  rcases (Rat.le_total : a ≤ b ∨ b ≤ a) with h | h
  · exact .inl ⟨h, Rat.le_refl⟩
  · exact .inr ⟨Rat.le_refl, h⟩
theorem hasQ_iff (a b x : Rat) : hasQ a b x = true ↔ Btw a b x := by
  unfold hasQ Btw
  rw [Bool.and_eq_true, decide_eq_true_eq, decide_eq_true_eq]
  show (if b < a then b else a) ≤ x ∧ x ≤ (if a < b then b else a) ↔ _
  constructor
  · rintro ⟨h1, h2⟩
    split at h1
    · rename_i h
      rw [if_neg (Rat.not_lt.2 (Rat.le_of_lt h))] at h2
      exact .inr ⟨h1, h2⟩
    · rename_i h
      split at h2
      · exact .inl ⟨h1, h2⟩
      · rename_i h'
        have : a = b := Rat.le_antisymm (Rat.not_lt.1 h) (Rat.not_lt.1 h')
        subst this
        exact .inl ⟨h1, h2⟩
  · rintro (⟨h1, h2⟩ | ⟨h1, h2⟩)
    · constructor
      · split
        · rename_i h; exact Rat.le_trans (Rat.le_of_lt h) h1
        · exact h1
      · split
        · exact h2
        · rename_i h; exact Rat.le_trans h2 (Rat.not_lt.1 h)
    · constructor
      · split
        · exact h1
        · rename_i h; exact Rat.le_trans (Rat.not_lt.1 h) h1
      · split
        · rename_i h; exact Rat.le_trans h2 (Rat.le_of_lt h)
        · exact h2
theorem hasQ_false {a b x : Rat} (h : hasQ a b x = false) : ¬ Btw a b x := fun k => by
  rw [(hasQ_iff a b x).2 k] at h; exact absurd h (by decide)
def absQ (r : Rat) : Rat := if r.num < 0 then -r else r
theorem num_zero {a : Rat} : a.num = 0 ↔ a = 0 := Rat.num_eq_zero
open Go Go.RowKit Go.Proofs Lim
theorem siz_absQ {r : Rat} {k : Nat} (h : Siz r k) : Siz (absQ r) k := by
  unfold absQ
  split
  · exact h.neg
  · exact h
theorem spabs_any (v : Value) (lo hi : Rat) (k : Nat) (w : World) (h : IsS w v lo hi) (z1 : Siz lo k) (z2 : Siz hi k) (hk : ((k + k : Nat) : Int) ≤ 1073741824) (hG : Gr w) :
    Calls Tryz.prog 60 #[v] w (SpNew w (lowOf (absQ lo) (turnVals (hasQ lo hi 0) (absQ hi) (absQ 0))) (highOf (absQ lo) (turnVals (hasQ lo hi 0) (absQ hi) (absQ 0)))) := by
  have k1 := siz_zero_bits k z1
  have z0 : Siz 0 k := Siz.zero k k1
  obtain ⟨s1, a1, b1, p1, s2, a2, b2, p2, rfl, i1, i2⟩ := h
  have HU := Lib.hid (fun bt ct W (hW : Below w.heap.size w W) c0 c1 c2 c3 => under_one 39 #[] #[] (enters_of Tryz.func39 (by kernel_rfl) rfl) s1 s2 a1 b1 a2 b2 p1 p2 lo hi 0 (absQ lo) (absQ hi) (absQ 0) (k + k) W
    bt 0 ct false 0 0 none (i1.below hW (Nat.le_refl _)) (i2.below hW (Nat.le_refl _)) (zero_val W) c0 c1 c2 c3
    (fun W' hW' => abs_q _ lo W' ((i1.below hW (Nat.le_refl _)).below hW' (Nat.le_refl _)))
    (fun W' hW' => abs_q _ hi W' ((i2.below hW (Nat.le_refl _)).below hW' (Nat.le_refl _)))
    (fun _ W' hW' => abs_q _ 0 W' (zero_val W'))
    (z1.le (by omega)) (z2.le (by omega)) (z0.le (by omega)) ((siz_absQ z1).le (by omega)) ((siz_absQ z2).le (by omega)) (fun _ => (siz_absQ z0).le (by omega)) hk)
  clear i1 i2 z1 z2 z0 k1 hk hG
  generalize lowOf (absQ lo) (turnVals (hasQ lo hi 0) (absQ hi) (absQ 0)) = l at *
  generalize highOf (absQ lo) (turnVals (hasQ lo hi 0) (absQ hi) (absQ 0)) = g at *
  go_enter Tryz.func60, Tryz.ntmps60
  go_wp2_with fail
  obtain ⟨W0, hW0, hb0, _, hz, hs⟩ := box8z w (.bool s1) (u a1) (u b1) (.pointer p1) (.bool s2) (u a2) (u b2) (.pointer p2)
  rw [hW0]
  have hb1 := below1 W0 (.cells #[.bool false, .int .u64 0, .int .u64 0, .pointer none] 26)
  rw [← hs]
  refine (HU.out _ 1 _ (chain1 hb0 hb1) (World.cell?_alloc_new ..) (World.cell?_alloc_new ..) (World.cell?_alloc_new ..) (World.cell?_alloc_new ..)).mono ?_
  rintro e W9 ⟨v, rfl, hv, hb⟩
  have hz9 : ZBox8 W9 (w.heap.size + 1) := Box8.below (Box8.below hz hb1 (Nat.le_refl _)) hb (Nat.le_refl _)
  have HB9 := Lib.hid (chain1 (chain1 hb0 hb1) hb)
  rw [hs]
  clear hb0 hz hs hW0 HU hb1
  (have hv' := hv; obtain ⟨t1, d1, e1, q1, t2, d2, e2, q2, rfl, _, _⟩ := hv'; have HFin := Lib.hid (SpNew.stored (Box8.nbox hz9) hv HB9.out (by omega) (.bool t1) (u d1) (u e1) (.pointer q1) (.bool t2) (u d2) (u e2) (.pointer q2)); (obtain ⟨z0, z1, z2, z3, z4, z5, z6, z7⟩ := Box8.cells hz9; have zf0 := Box8.frozen hz9 0; have zf1 := Box8.frozen hz9 1; have zf2 := Box8.frozen hz9 2; have zf3 := Box8.frozen hz9 3; have zf4 := Box8.frozen hz9 4; have zf5 := Box8.frozen hz9 5; have zf6 := Box8.frozen hz9 6; have zf7 := Box8.frozen hz9 7); clear hv hz9; clear hb; go_wp2_with fail; refine bodyPost_ret (v := .agg #[.bool t1, u d1, u e1, .pointer q1, .bool t2, u d2, u e2, .pointer q2]) (by simp [results, Tryz.results60, go_sem, z0, z1, z2, z3, z4, z5, z6, z7]) rfl ?_; exact HFin.out)
open Go Go.RowKit Go.Proofs Lim
set_option maxHeartbeats 1000000 in
theorem over1_q (v1 v2 : Value) (r s : Rat) (k : Nat) (w : World) (h1 : IsQ w v1 r) (h2 : IsQ w v2 s) (h0 : s.num ≠ 0) (z1 : Siz r k) (z2 : Siz s k) (hk : (k : Int) ≤ 1073741824) (hG : Gr w) :
    Calls Tryz.prog 111 #[v1, v2] w (QNew w (r * s⁻¹)) := by
  have HN := Lib.hid (fun W (hW : Below w.heap.size w W) => recip_q v2 s W (h2.below hW (Nat.le_refl _)) h0)
  have HP := Lib.hid (fun v W (hv : IsQ W v s⁻¹) (hW : Below w.heap.size w W) => times_q v1 v r s⁻¹ k W (h1.below hW (Nat.le_refl _)) hv z1 (z2.inv h0) hk (hG.below hW hG.size))
  obtain ⟨neg1, a1, b1, p1, rfl⟩ := h1.form
  obtain ⟨neg2, a2, b2, p2, rfl⟩ := h2.form
  clear h1 h2 h0 z1 z2 hk hG
  generalize r * s⁻¹ = t at *
  generalize s⁻¹ = s' at *
  go_enter Tryz.func111, Tryz.ntmps111
  go_wp2_with fail
  obtain ⟨W0, hW0, hb0, ⟨f0, f1, f2, f3⟩, ⟨g0, g1, g2, g3⟩, hz⟩ := box3 w (.bool neg1) (u a1) (u b1) (.pointer p1) (.bool neg2) (u a2) (u b2) (.pointer p2); rw [← hW0]; clear hW0; have HZ := Lib.hid hz; have HW0 := Lib.hid hb0; have hb0 := Below.refl W0.heap.size W0; clear hz
  have n1 : ¬ w.heap.size = w.heap.size + 1 + 1 := by omega
  have n2 : ¬ w.heap.size + 1 + 1 = w.heap.size := by omega
  have n3 : w.heap.size ≠ w.heap.size + 1 + 1 := by omega
  go_region_held3 (fun w' => (w'.cell? ⟨w.heap.size, 0, none⟩ = some (.bool neg1) ∧ w'.cell? ⟨w.heap.size, 1, none⟩ = some (u a1) ∧ w'.cell? ⟨w.heap.size, 2, none⟩ = some (u b1) ∧ w'.cell? ⟨w.heap.size, 3, none⟩ = some (.pointer p1)) ∧ (w'.cell? ⟨w.heap.size + 1, 0, none⟩ = some (.bool neg2) ∧ w'.cell? ⟨w.heap.size + 1, 1, none⟩ = some (u a2) ∧ w'.cell? ⟨w.heap.size + 1, 2, none⟩ = some (u b2) ∧ w'.cell? ⟨w.heap.size + 1, 3, none⟩ = some (.pointer p2))) (go_keep) (first | ((with_reducible refine (HN.out _ ((chain1 HW0.out hb0).drew)).mono ?_); rintro e W1 ⟨vn, rfl, hvn, hb⟩; (obtain ⟨_, _, _, _⟩ := boxq (b := w.heap.size) hb (by assumption) (by assumption) (by assumption) (by assumption); obtain ⟨_, _, _, _⟩ := boxq (b := w.heap.size + 1) hb (by assumption) (by assumption) (by assumption) (by assumption)); obtain ⟨_, _, _, _, rfl⟩ := hvn.form) | ((with_reducible refine (HP.out _ _ hvn (chain1 HW0.out (chain hb0 hb))).mono ?_); rintro e W9 ⟨v, rfl, hv, hb'⟩; (obtain ⟨_, _, _, _⟩ := boxq (b := w.heap.size) hb' (by assumption) (by assumption) (by assumption) (by assumption); obtain ⟨_, _, _, _⟩ := boxq (b := w.heap.size + 1) hb' (by assumption) (by assumption) (by assumption) (by assumption)); have hv' := hv; obtain ⟨sg9, a9, b9, p9, rfl⟩ := hv'.form; have hb3 := chain1 (chain hb0 hb) hb'; (have hz := HZ.out.below hb3 (Nat.le_refl _); have zf := hz.frozen; obtain ⟨z0, z1, z2, z3⟩ := hz.cells; have zf0 := zf 0; have zf1 := zf 1; have zf2 := zf 2; have zf3 := zf 3; clear zf hz)))
  have hz := HZ.out.below hb3 (Nat.le_refl _)
  have hfin := QNew.stored (a0 := .bool sg9) (a1 := u a9) (a2 := u b9) (a3 := .pointer p9) hz hv (chain1 HW0.out hb3) (by omega)
  have HFin := Lib.hid hfin
  clear hfin hv hv' hvn hb hb' hb0 hb3 hz f0 f1 f2 f3 g0 g1 g2 g3
  go_wp2_with fail
  refine bodyPost_ret (v := .agg #[.bool sg9, u a9, u b9, .pointer p9]) (by simp [results, Tryz.results111, go_sem, z0, z1, z2, z3]) rfl ?_
  exact HFin.out
theorem num_of_has {c d s : Rat} (h : hasQ c d 0 = false) (hs : s = c ∨ s = d) : s.num ≠ 0 := by
  intro e
  have e := num_zero.1 e
  have := hasQ_false h
  rcases hs with rfl | rfl
  · rw [e] at this; exact this (Btw.left _ _)
  · rw [e] at this; exact this (Btw.right _ _)
def OverS (w : World) (lo hi : Rat) (e : Ending) (w' : World) : Prop := ∃ v, e = .returned (.tuple #[v, .int .i64 0]) ∧ IsS w' v lo hi ∧ Below w.heap.size w w'
set_option maxHeartbeats 2000000 in
theorem spover_any (v1 v2 : Value) (a b c d : Rat) (k : Nat) (w : World) (h1 : IsS w v1 a b) (h2 : IsS w v2 c d) (h0 : hasQ c d 0 = false) (za : Siz a k) (zb : Siz b k) (zc : Siz c k) (zd : Siz d k) (hk : ((k + k : Nat) : Int) ≤ 1073741824) (hG : Gr w) :
    Calls Tryz.prog 64 #[v1, v2] w (OverS w (wLow (fun r s => r * s⁻¹) a b c d) (wHigh (fun r s => r * s⁻¹) a b c d)) := by
  have HW := Lib.hid (fun W (hW : Below w.heap.size w W) => with_op 111 (enters_of Tryz.func111 (by kernel_rfl) rfl) (fun r s => r * s⁻¹) v1 v2 a b c d k (k + k) W
    (fun x y r s W' hx hy _ hs z1 z2 hW' => over1_q x y r s k W' hx hy (num_of_has h0 hs) z1 z2 (by omega) ((hG.below hW hG.size).below hW' (Nat.le_trans hG.size hW.size))) (fun r s _ hs z1 z2 => z1.mul (z2.inv (num_of_has h0 hs))) (h1.below hW (Nat.le_refl _)) (h2.below hW (Nat.le_refl _)) za zb zc zd (by omega))
  have HH := Lib.hid (fun vz W (hW : Below w.heap.size w W) (hz : IsQ W vz 0) => has_any v2 vz c d 0 k W (h2.below hW (Nat.le_refl _)) hz zc zd (Siz.zero k (siz_zero_bits k za)) (by omega))
  rw [h0] at HH
  obtain ⟨s1, a1, b1, p1, s2, a2, b2, p2, rfl, _, _⟩ := h1
  obtain ⟨s3, a3, b3, p3, s4, a4, b4, p4, rfl, _, _⟩ := h2
  clear za zb zc zd hk hG h0
  generalize wLow (fun r s => r * s⁻¹) a b c d = lo at *
  generalize wHigh (fun r s => r * s⁻¹) a b c d = hi at *
  go_enter Tryz.func64, Tryz.ntmps64
  go_wp2_with fail
  obtain ⟨W0, hW0, hb0, hX, hY, hz, hs⟩ := box88z w (.bool s1) (u a1) (u b1) (.pointer p1) (.bool s2) (u a2) (u b2) (.pointer p2) (.bool s3) (u a3) (u b3) (.pointer p3) (.bool s4) (u a4) (u b4) (.pointer p4)
  rw [hW0]
  refine (HH.out _ _ hb0 (zero_val _)).mono ?_
  rintro e W1 ⟨rfl, hb⟩
  have hX := Box8.below hX hb (Nat.le_refl _)
  have hY := Box8.below hY hb (Nat.le_refl _)
  have HZ := Lib.hid (Box8.below hz hb (Nat.le_refl _))
  have HB := Lib.hid (chain1 hb0 hb)
  (obtain ⟨c0, c1, c2, c3, c4, c5, c6, c7⟩ := hX.cells)
  (obtain ⟨d0, d1, d2, d3, d4, d5, d6, d7⟩ := hY.cells)
  clear hX hY hz hs hW0 hb0 hb HH
  go_wp2_with fail
  refine (HW.out _ HB.out).mono ?_
  rintro e W9 ⟨v, rfl, hv, hb⟩
  have hz9 : ZBox8 W9 (w.heap.size + 1 + 1) := Box8.below HZ.out hb (Nat.le_refl _)
  have HB9 := Lib.hid (chain1 HB.out hb)
  clear c0 c1 c2 c3 c4 c5 c6 c7 d0 d1 d2 d3 d4 d5 d6 d7 hb
  have hv' := hv
  obtain ⟨t1, d1, e1, q1, t2, d2, e2, q2, rfl, _, _⟩ := hv'
  have HFin := Lib.hid (SpNew.stored (Box8.nbox hz9) hv HB9.out (by omega) (.bool t1) (u d1) (u e1) (.pointer q1) (.bool t2) (u d2) (u e2) (.pointer q2))
  (obtain ⟨z0, z1, z2, z3, z4, z5, z6, z7⟩ := Box8.cells hz9; have zf0 := Box8.frozen hz9 0; have zf1 := Box8.frozen hz9 1; have zf2 := Box8.frozen hz9 2; have zf3 := Box8.frozen hz9 3; have zf4 := Box8.frozen hz9 4; have zf5 := Box8.frozen hz9 5; have zf6 := Box8.frozen hz9 6; have zf7 := Box8.frozen hz9 7)
  clear hv hz9
  go_wp2_with fail
  refine bodyPost_ret (v := .tuple #[.agg #[.bool t1, u d1, u e1, .pointer q1, .bool t2, u d2, u e2, .pointer q2], .int .i64 0]) (by simp [results, Tryz.results64, go_sem, z0, z1, z2, z3, z4, z5, z6, z7]) rfl ?_
  obtain ⟨v, hv, hq, hbb⟩ := HFin.out
  injection hv with hv
  subst hv
  exact ⟨_, rfl, hq, hbb⟩
abbrev zspan : Value := .agg #[.bool false, .int .u64 0, .int .u64 0, .pointer none, .bool false, .int .u64 0, .int .u64 0, .pointer none]
theorem zspan_is (w : World) : IsS w zspan 0 0 := ⟨_, 0, 0, _, _, 0, 0, _, rfl, zero_val w, zero_val w⟩
theorem store8 {w W0 W : World} {R : Nat} (h0 : Below w.heap.size w W0) (h : Below W0.heap.size W0 W) (hR : w.heap.size ≤ R) (d0 d1 d2 d3 d4 d5 d6 d7 : Value) :
    Below w.heap.size w ((((((((W.setCell ⟨R, 0, none⟩ d0).setCell ⟨R, 1, none⟩ d1).setCell ⟨R, 2, none⟩ d2).setCell ⟨R, 3, none⟩ d3).setCell ⟨R, 4, none⟩ d4).setCell ⟨R, 5, none⟩ d5).setCell ⟨R, 6, none⟩ d6).setCell ⟨R, 7, none⟩ d7) :=
  (chain1 h0 h).trans ((only8 W R d0 d1 d2 d3 d4 d5 d6 d7).below hR)
set_option maxHeartbeats 2000000 in
theorem spover_zero (v1 v2 : Value) (a b c d : Rat) (k : Nat) (w : World) (h1 : IsS w v1 a b) (h2 : IsS w v2 c d) (h0 : hasQ c d 0 = true) (zc : Siz c k) (zd : Siz d k) (hk : (k : Int) ≤ 1073741824) :
    Calls Tryz.prog 64 #[v1, v2] w (fun e w' => e = .returned (.tuple #[zspan, .int .i64 10]) ∧ Below w.heap.size w w') := by
  have HH := Lib.hid (fun vz W (hW : Below w.heap.size w W) (hz : IsQ W vz 0) => has_any v2 vz c d 0 k W (h2.below hW (Nat.le_refl _)) hz zc zd (Siz.zero k (siz_zero_bits k zc)) hk)
  rw [h0] at HH
  obtain ⟨s1, a1, b1, p1, s2, a2, b2, p2, rfl, _, _⟩ := h1
  obtain ⟨s3, a3, b3, p3, s4, a4, b4, p4, rfl, _, _⟩ := h2
  clear zc zd hk h0
  go_enter Tryz.func64, Tryz.ntmps64
  go_wp2_with fail
  obtain ⟨W0, hW0, hb0, hX, hY, hz, hs⟩ := box88z w (.bool s1) (u a1) (u b1) (.pointer p1) (.bool s2) (u a2) (u b2) (.pointer p2) (.bool s3) (u a3) (u b3) (.pointer p3) (.bool s4) (u a4) (u b4) (.pointer p4)
  rw [hW0]
  refine (HH.out _ _ hb0 (zero_val _)).mono ?_
  rintro e W1 ⟨rfl, hb⟩
  have hz9 : ZBox8 W1 (w.heap.size + 1 + 1) := Box8.below hz hb (Nat.le_refl _)
  have HB := Lib.hid hb
  have HB0 := Lib.hid hb0
  (obtain ⟨z0, z1, z2, z3, z4, z5, z6, z7⟩ := Box8.cells hz9; have zf0 := Box8.frozen hz9 0; have zf1 := Box8.frozen hz9 1; have zf2 := Box8.frozen hz9 2; have zf3 := Box8.frozen hz9 3; have zf4 := Box8.frozen hz9 4; have zf5 := Box8.frozen hz9 5; have zf6 := Box8.frozen hz9 6; have zf7 := Box8.frozen hz9 7)
  clear hX hY hz hs hW0 hb0 hb HH hz9
  go_wp2_with fail
  refine bodyPost_ret (v := .tuple #[zspan, .int .i64 10]) (by simp [results, Tryz.results64, go_sem, z0, z1, z2, z3, z4, z5, z6, z7]) rfl ?_
  exact ⟨rfl, store8 HB0.out HB.out (by omega) _ _ _ _ _ _ _ _⟩
open Go Go.RowKit Go.Proofs Lim
theorem nt_small : ntext 0 = [48] ∧ ntext 1 = [49] ∧ ntext 2 = [50] ∧ ntext 3 = [51] ∧ ntext 4 = [52] ∧ ntext 8 = [56] := by
  refine ⟨?_, ?_, ?_, ?_, ?_, ?_⟩ <;> simp [ntext, digs_pos, digs_zero, dbyte]
theorem qtext_of {r : Rat} {i : Int} {d : Nat} (h1 : r.num = i) (h2 : r.den = d) : qtext r = (if i < 0 then [45] else []) ++ ntext i.natAbs ++ (if d = 1 then [] else 47 :: ntext d) := by
  unfold qtext
  rw [h1, h2]
abbrev qi (i : Int) : Rat := (i : Rat)
theorem kx : qtext (qi 6 / qi (-4)) = [45, 51, 47, 50] := by
  rw [qtext_of (i := -3) (d := 2) (by kernel_rfl) (by kernel_rfl)]
  show [45] ++ ntext 3 ++ (47 :: ntext 2) = _
  rw [nt_small.2.2.2.1, nt_small.2.2.1]; rfl
theorem kxf : qtext (((qi 6 / qi (-4)).floor : Int) : Rat) = [45, 50] := by
  rw [show (qi 6 / qi (-4)).floor = -2 by kernel_rfl, qtext_of (i := -2) (d := 1) rfl rfl]
  show [45] ++ ntext 2 ++ [] = _
  rw [nt_small.2.2.1]; rfl
theorem kxc : qtext (((qi 6 / qi (-4)).ceil : Int) : Rat) = [45, 49] := by
  rw [show (qi 6 / qi (-4)).ceil = -1 by kernel_rfl, qtext_of (i := -1) (d := 1) rfl rfl]
  show [45] ++ ntext 1 ++ [] = _
  rw [nt_small.2.1]; rfl
theorem kread : readQ [54, 47, 52] = (0, 4) := by
  refine (readQ_some (r := mkRat 3 2) (by decide) (by kernel_rfl)).trans (if_neg ?_)
  rw [qtext_of (i := 3) (d := 2) (by kernel_rfl) (by kernel_rfl)]
  show ¬ ([] ++ ntext 3 ++ (47 :: ntext 2) = _)
  rw [nt_small.2.2.2.1, nt_small.2.2.1]
  decide
theorem ks : lowOf (qi 2) [qi (-1)] = qi (-1) ∧ highOf (qi 2) [qi (-1)] = qi 2 := ⟨by kernel_rfl, by kernel_rfl⟩
theorem kr : lowOf (qi 3) [qi 4] = qi 3 ∧ highOf (qi 3) [qi 4] = qi 4 := ⟨by kernel_rfl, by kernel_rfl⟩
theorem kv : lowOf (qi 0) [qi 3] = qi 0 ∧ highOf (qi 0) [qi 3] = qi 3 := ⟨by kernel_rfl, by kernel_rfl⟩
theorem kt : wLow (fun r s => r * s) (qi (-1)) (qi 2) (qi 3) (qi 4) = qi (-4) ∧ wHigh (fun r s => r * s) (qi (-1)) (qi 2) (qi 3) (qi 4) = qi 8 := ⟨by kernel_rfl, by kernel_rfl⟩
theorem kq : lowOf (qi (-1) * qi (-1)) (turnVals (hasQ (qi (-1)) (qi 2) 0) (qi 2 * qi 2) (0 * 0)) = qi 0 := by kernel_rfl
theorem ku : lowOf (quadAt (qi 1) (qi (-2)) (qi 0) (qi 0)) (quadVals (qi 1) (qi (-2)) (qi 0) (qi 0) (qi 3)) = qi (-1) ∧ highOf (quadAt (qi 1) (qi (-2)) (qi 0) (qi 0)) (quadVals (qi 1) (qi (-2)) (qi 0) (qi 0) (qi 3)) = qi 3 := ⟨by kernel_rfl, by kernel_rfl⟩
theorem kt4 : qtext (qi (-4)) = [45, 52] := by
  rw [qtext_of (i := -4) (d := 1) rfl rfl]
  show [45] ++ ntext 4 ++ [] = _
  rw [nt_small.2.2.2.2.1]; rfl
theorem kt8 : qtext (qi 8) = [56] := by
  rw [qtext_of (i := 8) (d := 1) rfl rfl]
  show [] ++ ntext 8 ++ [] = _
  rw [nt_small.2.2.2.2.2]; rfl
theorem kt0 : qtext (qi 0) = [48] := by
  rw [qtext_of (i := 0) (d := 1) rfl rfl]
  show [] ++ ntext 0 ++ [] = _
  rw [nt_small.1]; rfl
theorem kt1 : qtext (qi (-1)) = [45, 49] := by
  rw [qtext_of (i := -1) (d := 1) rfl rfl]
  show [45] ++ ntext 1 ++ [] = _
  rw [nt_small.2.1]; rfl
theorem kt3 : qtext (qi 3) = [51] := by
  rw [qtext_of (i := 3) (d := 1) rfl rfl]
  show [] ++ ntext 3 ++ [] = _
  rw [nt_small.2.2.2.1]; rfl
theorem siz_qi (i : Int) (h1 : -9223372036854775808 ≤ i) (h2 : i ≤ 9223372036854775807) : Siz (qi i) 1 := siz_int i h1 h2
open Go Go.RowKit Go.Proofs Lim
theorem newbox8 (w : World) (c0 c1 c2 c3 c4 c5 c6 c7 : Value) : ∃ W, w.alloc (.cells #[c0, c1, c2, c3, c4, c5, c6, c7] 66) = W ∧ Below w.heap.size w W ∧ Box8 W w.heap.size c0 c1 c2 c3 c4 c5 c6 c7 :=
  ⟨_, rfl, below1 w _, Box8.new w c0 c1 c2 c3 c4 c5 c6 c7⟩
def ZAt (w0 W : World) (m : Nat) : Prop := w0.heap.size ≤ m ∧ ZBox8 W m
theorem ZAt.keep {w0 W W' : World} {m : Nat} (h : ZAt w0 W m) (hb : Below W.heap.size W W') : ZAt w0 W' m := ⟨h.1, Box8.below h.2 hb (Nat.le_refl _)⟩
theorem ZAt.new {w0 W W' : World} (hb0 : Below w0.heap.size w0 W) (hb : Below (W.alloc (.cells #[.bool false, .int .u64 0, .int .u64 0, .pointer none, .bool false, .int .u64 0, .int .u64 0, .pointer none] 66)).heap.size (W.alloc (.cells #[.bool false, .int .u64 0, .int .u64 0, .pointer none, .bool false, .int .u64 0, .int .u64 0, .pointer none] 66)) W') : ZAt w0 W' W.heap.size :=
  ⟨hb0.size, Box8.below (Box8.new W _ _ _ _ _ _ _ _) hb (Nat.le_refl _)⟩
theorem ZAt.drew {w0 W W' : World} (hb0 : Below w0.heap.size w0 W) (hb : Below (W.alloc (.cells #[.bool false, .int .u64 0, .int .u64 0, .pointer none, .bool false, .int .u64 0, .int .u64 0, .pointer none] 66)).drew.heap.size (W.alloc (.cells #[.bool false, .int .u64 0, .int .u64 0, .pointer none, .bool false, .int .u64 0, .int .u64 0, .pointer none] 66)).drew W') : ZAt w0 W' W.heap.size :=
  ⟨hb0.size, Box8.below (W := (W.alloc (.cells #[.bool false, .int .u64 0, .int .u64 0, .pointer none, .bool false, .int .u64 0, .int .u64 0, .pointer none] 66)).drew) (show Box8 (W.alloc (.cells #[.bool false, .int .u64 0, .int .u64 0, .pointer none, .bool false, .int .u64 0, .int .u64 0, .pointer none] 66)) _ _ _ _ _ _ _ _ _ from Box8.new W _ _ _ _ _ _ _ _) hb (Nat.le_refl _)⟩
def KBox (w0 : World) (lo hi : Rat) (s : Value) (wx : World) : Prop := ∃ m t1 ta tb tp t2 tc td tq, s = .pointer (some ⟨m, 0, none⟩) ∧ Box8 wx m (.bool t1) (u ta) (u tb) (.pointer tp) (.bool t2) (u tc) (u td) (.pointer tq) ∧
  IsQ wx (.agg #[.bool t1, u ta, u tb, .pointer tp]) lo ∧ IsQ wx (.agg #[.bool t2, u tc, u td, .pointer tq]) hi ∧ Below w0.heap.size w0 wx
theorem KBox.stored {w0 W : World} {R : Nat} {lo hi : Rat} {t1 t2 : Bool} {ta tb tc td : Nat} {tp tq : Option Addr} (hR : ZAt w0 W R) (h : IsS W (.agg #[.bool t1, u ta, u tb, .pointer tp, .bool t2, u tc, u td, .pointer tq]) lo hi) (hb : Below w0.heap.size w0 W) :
    KBox w0 lo hi (.pointer (some ⟨R, 0, none⟩)) ((((((((W.setCell ⟨R, 0, none⟩ (.bool t1)).setCell ⟨R, 1, none⟩ (u ta)).setCell ⟨R, 2, none⟩ (u tb)).setCell ⟨R, 3, none⟩ (.pointer tp)).setCell ⟨R, 4, none⟩ (.bool t2)).setCell ⟨R, 5, none⟩ (u tc)).setCell ⟨R, 6, none⟩ (u td)).setCell ⟨R, 7, none⟩ (.pointer tq)) := by
  have ho := only8 W R (.bool t1) (u ta) (u tb) (.pointer tp) (.bool t2) (u tc) (u td) (.pointer tq)
  obtain ⟨_, _, _, _, _, _, _, _, he, h1, h2⟩ := h
  simp only [Value.agg.injEq, Array.mk.injEq, List.cons.injEq, and_true] at he
  obtain ⟨e1, e2, e3, e4, e5, e6, e7, e8⟩ := he
  rw [← e1, ← e2, ← e3, ← e4] at h1
  rw [← e5, ← e6, ← e7, ← e8] at h2
  exact ⟨R, t1, ta, tb, tp, t2, tc, td, tq, rfl, Box8.setHigh (Box8.setLow hR.2 _ _ _ _) _ _ _ _, h1.other (Box8.nbox hR.2) ho, h2.other (Box8.nbox hR.2) ho, hb.trans (ho.below hR.1)⟩
theorem KBox.fresh {w0 W : World} {lo hi : Rat} {t1 t2 : Bool} {ta tb tc td : Nat} {tp tq : Option Addr} (h : IsS W (.agg #[.bool t1, u ta, u tb, .pointer tp, .bool t2, u tc, u td, .pointer tq]) lo hi) (hb : Below w0.heap.size w0 W) :
    KBox w0 lo hi (.pointer (some ⟨W.heap.size, 0, none⟩)) (W.alloc (.cells #[.bool t1, u ta, u tb, .pointer tp, .bool t2, u tc, u td, .pointer tq] 66)) := by
  obtain ⟨_, _, _, _, _, _, _, _, he, h1, h2⟩ := h
  simp only [Value.agg.injEq, Array.mk.injEq, List.cons.injEq, and_true] at he
  obtain ⟨e1, e2, e3, e4, e5, e6, e7, e8⟩ := he
  rw [← e1, ← e2, ← e3, ← e4] at h1
  rw [← e5, ← e6, ← e7, ← e8] at h2
  exact ⟨W.heap.size, t1, ta, tb, tp, t2, tc, td, tq, rfl, Box8.new W _ _ _ _ _ _ _ _, h1.below (below1 W _) (Nat.le_refl _), h2.below (below1 W _) (Nat.le_refl _), chain1 hb (below1 W _)⟩
theorem field_low (s1 s2 : Bool) (a b c d : Nat) (p q : Option Addr) (W : World) : (Instr.field 66 (.agg #[.bool s1, u a, u b, .pointer p, .bool s2, u c, u d, .pointer q]) 0).run Tryz.prog W = .ok (.agg #[.bool s1, u a, u b, .pointer p]) W := by kernel_rfl
end Go.Proofs.YtccabfblgjcboaaGreatDoor
