/- Package exact, part 4: what its functions answer, as laws on the numbers that their values stand for (QCmp QRecip QOver QInt QOf QInt64 Cut QCut QFloor QText ReadNat Size QSize QRead QParts). -/
import Derived.Test.YtojploidgagmgaaGreatDoorJ3
import Derived.Lib.ParseIntB
set_option linter.unusedVariables false
set_option linter.unusedSimpArgs false

/- Q.Cmp: the order of numbers. -/
namespace Go.Proofs.YtojploidgagmgaaGreatDoor
open Go Go.RowKit Go.Proofs Lim

/-- -1, 0 or 1 as r is below, at or above s. -/
def cmpQ (r s : Rat) : Int := if r < s then -1 else if s < r then 1 else 0

theorem cmpQ_int (r s : Rat) : cmpQ r s = if r.num * s.den < s.num * r.den then -1 else if s.num * r.den < r.num * s.den then 1 else 0 := by
  unfold cmpQ
  simp only [Rat.lt_iff]

theorem apart_int {m n : Int} {a b : Nat} (ha : 0 < a) (hb : 0 < b) (h : decide (m < 0) ≠ decide (n < 0)) :
    (if m * b < n * a then (-1 : Int) else if n * a < m * b then 1 else 0) = if decide (m < 0) then -1 else 1 := by
  have ha' : (0 : Int) < a := by omega
  have hb' : (0 : Int) < b := by omega
  by_cases hm : m < 0
  · have hn : 0 ≤ n := by
      by_cases hn : n < 0
      · exact absurd (by simp [hm, hn]) h
      · omega
    have h1 : m * b < 0 := Int.mul_neg_of_neg_of_pos hm hb'
    have h2 : 0 ≤ n * a := Int.mul_nonneg hn (Int.le_of_lt ha')
    rw [if_pos (by omega)]
    simp [hm]
  · have hn : n < 0 := by
      by_cases hn : n < 0
      · exact hn
      · exact absurd (by simp [hm, hn]) h
    have h1 : n * a < 0 := Int.mul_neg_of_neg_of_pos hn ha'
    have h2 : 0 ≤ m * b := Int.mul_nonneg (by omega) (Int.le_of_lt hb')
    rw [if_neg (by omega), if_pos (by omega)]
    simp [hm]

theorem same_int {m n : Int} {a b : Nat} (h : decide (m < 0) = decide (n < 0)) :
    (if decide (m < 0) then (-1 : Int) else 1) * cmpNat (m.natAbs * b) (n.natAbs * a) = if m * b < n * a then (-1 : Int) else if n * a < m * b then 1 else 0 := by
  unfold cmpNat
  by_cases hm : m < 0
  · have hn : n < 0 := by
      by_cases hn : n < 0
      · exact hn
      · simp [hm, hn] at h
    have e1 : m * b = -((m.natAbs * b : Nat) : Int) := by
      rw [Int.natCast_mul, ← Int.neg_mul]; congr 1; omega
    have e2 : n * a = -((n.natAbs * a : Nat) : Int) := by
      rw [Int.natCast_mul, ← Int.neg_mul]; congr 1; omega
    rw [e1, e2]
    generalize m.natAbs * b = x
    generalize n.natAbs * a = y
    simp only [hm, decide_true, if_true]
    rcases Nat.lt_trichotomy x y with g | g | g
    · rw [if_pos g, if_neg (by omega), if_pos (by omega)]; rfl
    · rw [if_neg (by omega), if_neg (by omega), if_neg (by omega), if_neg (by omega)]; rfl
    · rw [if_neg (by omega), if_pos g, if_pos (by omega)]; rfl
  · have hn : ¬ n < 0 := by
      intro hn
      simp [hm, hn] at h
    have e1 : m * b = ((m.natAbs * b : Nat) : Int) := by
      rw [Int.natCast_mul]; congr 1; omega
    have e2 : n * a = ((n.natAbs * a : Nat) : Int) := by
      rw [Int.natCast_mul]; congr 1; omega
    rw [e1, e2]
    generalize m.natAbs * b = x
    generalize n.natAbs * a = y
    simp only [hm, decide_false, Bool.false_eq_true, if_false]
    rcases Nat.lt_trichotomy x y with g | g | g
    · rw [if_pos g, if_pos (by omega)]; rfl
    · rw [if_neg (by omega), if_neg (by omega), if_neg (by omega), if_neg (by omega)]; rfl
    · rw [if_neg (by omega), if_pos g, if_neg (by omega), if_pos (by omega)]; rfl

theorem cmpQ_apart {r s : Rat} (h : neg? r ≠ neg? s) : cmpQ r s = if neg? r then -1 else 1 := by
  rw [cmpQ_int]
  exact apart_int r.den_pos s.den_pos h

theorem cmpQ_same {r s : Rat} (h : neg? r = neg? s) : (if neg? r then (-1 : Int) else 1) * cmpNat (r.num.natAbs * s.den) (s.num.natAbs * r.den) = cmpQ r s := by
  rw [cmpQ_int]
  exact same_int h

theorem cmpQ_wrap (r s : Rat) : IntKind.i64.wrap (cmpQ r s) = cmpQ r s := by
  unfold cmpQ
  split
  · rfl
  · split <;> rfl

theorem cmp_q (v1 v2 : Value) (r s : Rat) (k : Nat) (w : World) (h1 : IsQ w v1 r) (h2 : IsQ w v2 s) (z1 : Siz r k) (z2 : Siz s k) (hk : (k : Int) ≤ 1073741824) :
    Calls Tryz.prog 35 #[v1, v2] w (Val w (.int .i64 (cmpQ r s))) := by
  have HW := Lib.hid (fun W (hW : Below w.heap.size w W) => compareWide_any v1 v2 _ _ _ _ _ _ k W (h1.below hW (Nat.le_refl _)) (h2.below hW (Nat.le_refl _)) z1.1 z1.2 z2.1 z2.2 hk)
  by_cases hne : neg? r = neg? s
  · have hres := cmpQ_same hne
    have hwr := cmpQ_wrap r s
    rw [← hres] at hwr
    have hbn : (neg? r == neg? s) = true := by rw [hne]; simp
    obtain ⟨sv, hsv⟩ : ∃ sv : Int, sv = if neg? r then -1 else 1 := ⟨_, rfl⟩
    have hside := fun a b p W => side_any (neg? r) a b p W
    rw [← hsv] at hside hres hwr
    clear hsv
    rcases h1.forms with ⟨l1, rfl, d1, i1, j1⟩ | ⟨b1, rfl⟩
    · have HS := Lib.hid (hside r.num.natAbs l1 none)
      rcases h2.forms with ⟨l2, rfl, d2, i2, j2⟩ | ⟨b2, rfl⟩
      · have HC := Lib.hid (fun W => compareSmall_any (neg? r) (neg? s) r.num.natAbs l1 s.num.natAbs l2 i1 (d1 ▸ j1) i2 (d2 ▸ j2) W)
        rw [← d1, ← d2] at HC
        generalize cmpNat (r.num.natAbs * s.den) (s.num.natAbs * r.den) = cv at *
        clear h1 h2 z1 z2 hk hne hside i1 i2 j1 j2 d1 d2 HW
        generalize cmpQ r s = t at *
        generalize neg? r = neg1 at *
        generalize neg? s = neg2 at *
        generalize r.num.natAbs = n1 at *
        generalize s.num.natAbs = n2 at *
        subst hres
        generalize hpr : sv * cv = pr at *
        go_enter Tryz.func35, Tryz.ntmps35
        go_wp2_with fail
        obtain ⟨W0, hW0, hb0, ⟨f0, f1, f2, f3⟩, ⟨g0, g1, g2, g3⟩⟩ := box2 w (.bool neg1) (u n1) (u l1) (.pointer none) (.bool neg2) (u n2) (u l2) (.pointer none); rw [← hW0]; clear hW0
        go_region_held3 (fun w' => (w'.cell? ⟨w.heap.size, 0, none⟩ = some (.bool neg1) ∧ w'.cell? ⟨w.heap.size, 1, none⟩ = some (u n1) ∧ w'.cell? ⟨w.heap.size, 2, none⟩ = some (u l1) ∧ w'.cell? ⟨w.heap.size, 3, none⟩ = some (.pointer none)) ∧ (w'.cell? ⟨w.heap.size + 1, 0, none⟩ = some (.bool neg2) ∧ w'.cell? ⟨w.heap.size + 1, 1, none⟩ = some (u n2) ∧ w'.cell? ⟨w.heap.size + 1, 2, none⟩ = some (u l2) ∧ w'.cell? ⟨w.heap.size + 1, 3, none⟩ = some (.pointer none))) (go_keep) (first | ((with_reducible refine (HS.out _).mono ?_); rintro e W1 ⟨rfl, hb⟩; (obtain ⟨_, _, _, _⟩ := boxq (b := w.heap.size) hb (by assumption) (by assumption) (by assumption) (by assumption); obtain ⟨_, _, _, _⟩ := boxq (b := w.heap.size + 1) hb (by assumption) (by assumption) (by assumption) (by assumption))) | ((with_reducible refine (HC.out _).mono ?_); rintro e W2 ⟨rfl, hb'⟩; (obtain ⟨_, _, _, _⟩ := boxq (b := w.heap.size) hb' (by assumption) (by assumption) (by assumption) (by assumption); obtain ⟨_, _, _, _⟩ := boxq (b := w.heap.size + 1) hb' (by assumption) (by assumption) (by assumption) (by assumption))))
        have HB := Lib.hid (chain1 (chain hb0 hb) hb')
        clear hb0 hb hb' f0 f1 f2 f3 g0 g1 g2 g3
        go_wp2_with fail
        go_ret
        exact ⟨rfl, HB.out⟩
      · generalize cmpNat (r.num.natAbs * s.den) (s.num.natAbs * r.den) = cv at *
        clear h1 h2 z1 z2 hk hne hside i1 j1 d1
        generalize cmpQ r s = t at *
        generalize neg? r = neg1 at *
        generalize neg? s = neg2 at *
        generalize r.num.natAbs = n1 at *
        subst hres
        generalize hpr : sv * cv = pr at *
        go_enter Tryz.func35, Tryz.ntmps35
        go_wp2_with fail
        obtain ⟨W0, hW0, hb0, ⟨f0, f1, f2, f3⟩, ⟨g0, g1, g2, g3⟩⟩ := box2 w (.bool neg1) (u n1) (u l1) (.pointer none) (.bool neg2) (u 0) (u 0) (.pointer (some ⟨b2, 0, none⟩)); rw [← hW0]; clear hW0
        go_region_held3 (fun w' => (w'.cell? ⟨w.heap.size, 0, none⟩ = some (.bool neg1) ∧ w'.cell? ⟨w.heap.size, 1, none⟩ = some (u n1) ∧ w'.cell? ⟨w.heap.size, 2, none⟩ = some (u l1) ∧ w'.cell? ⟨w.heap.size, 3, none⟩ = some (.pointer none)) ∧ (w'.cell? ⟨w.heap.size + 1, 0, none⟩ = some (.bool neg2) ∧ w'.cell? ⟨w.heap.size + 1, 1, none⟩ = some (u 0) ∧ w'.cell? ⟨w.heap.size + 1, 2, none⟩ = some (u 0) ∧ w'.cell? ⟨w.heap.size + 1, 3, none⟩ = some (.pointer (some ⟨b2, 0, none⟩)))) (go_keep) (first | ((with_reducible refine (HS.out _).mono ?_); rintro e W1 ⟨rfl, hb⟩; (obtain ⟨_, _, _, _⟩ := boxq (b := w.heap.size) hb (by assumption) (by assumption) (by assumption) (by assumption); obtain ⟨_, _, _, _⟩ := boxq (b := w.heap.size + 1) hb (by assumption) (by assumption) (by assumption) (by assumption))) | ((with_reducible refine (HW.out _ (chain hb0 hb)).mono ?_); rintro e W2 ⟨rfl, hb'⟩; (obtain ⟨_, _, _, _⟩ := boxq (b := w.heap.size) hb' (by assumption) (by assumption) (by assumption) (by assumption); obtain ⟨_, _, _, _⟩ := boxq (b := w.heap.size + 1) hb' (by assumption) (by assumption) (by assumption) (by assumption))))
        have HB := Lib.hid (chain1 (chain hb0 hb) hb')
        clear hb0 hb hb' f0 f1 f2 f3 g0 g1 g2 g3
        go_wp2_with fail
        go_ret
        exact ⟨rfl, HB.out⟩
    · have HS := Lib.hid (hside 0 0 (some ⟨b1, 0, none⟩))
      obtain ⟨a2, b2, p2, rfl, _⟩ := Num.form h2
      clear h1 h2 z1 z2 hk hbn
      obtain ⟨neg2, hn2⟩ : ∃ neg2, neg2 = decide (s.num < 0) := ⟨_, rfl⟩
      rw [← hn2] at HW ⊢
      have hne2 : neg? r = neg2 := hne.trans hn2.symm
      have hbn : (neg? r == neg2) = true := by rw [hne2]; simp
      clear hne hne2
      generalize cmpNat (r.num.natAbs * s.den) (s.num.natAbs * r.den) = cv at *
      clear hside hn2
      generalize cmpQ r s = t at *
      generalize neg? r = neg1 at *
      subst hres
      generalize hpr : sv * cv = pr at *
      go_enter Tryz.func35, Tryz.ntmps35
      go_wp2_with fail
      obtain ⟨W0, hW0, hb0, ⟨f0, f1, f2, f3⟩, ⟨g0, g1, g2, g3⟩⟩ := box2 w (.bool neg1) (u 0) (u 0) (.pointer (some ⟨b1, 0, none⟩)) (.bool neg2) (u a2) (u b2) (.pointer p2); rw [← hW0]; clear hW0
      go_region_held3 (fun w' => (w'.cell? ⟨w.heap.size, 0, none⟩ = some (.bool neg1) ∧ w'.cell? ⟨w.heap.size, 1, none⟩ = some (u 0) ∧ w'.cell? ⟨w.heap.size, 2, none⟩ = some (u 0) ∧ w'.cell? ⟨w.heap.size, 3, none⟩ = some (.pointer (some ⟨b1, 0, none⟩))) ∧ (w'.cell? ⟨w.heap.size + 1, 0, none⟩ = some (.bool neg2) ∧ w'.cell? ⟨w.heap.size + 1, 1, none⟩ = some (u a2) ∧ w'.cell? ⟨w.heap.size + 1, 2, none⟩ = some (u b2) ∧ w'.cell? ⟨w.heap.size + 1, 3, none⟩ = some (.pointer p2))) (go_keep) (first | ((with_reducible refine (HS.out _).mono ?_); rintro e W1 ⟨rfl, hb⟩; (obtain ⟨_, _, _, _⟩ := boxq (b := w.heap.size) hb (by assumption) (by assumption) (by assumption) (by assumption); obtain ⟨_, _, _, _⟩ := boxq (b := w.heap.size + 1) hb (by assumption) (by assumption) (by assumption) (by assumption))) | ((with_reducible refine (HW.out _ (chain hb0 hb)).mono ?_); rintro e W2 ⟨rfl, hb'⟩; (obtain ⟨_, _, _, _⟩ := boxq (b := w.heap.size) hb' (by assumption) (by assumption) (by assumption) (by assumption); obtain ⟨_, _, _, _⟩ := boxq (b := w.heap.size + 1) hb' (by assumption) (by assumption) (by assumption) (by assumption))))
      have HB := Lib.hid (chain1 (chain hb0 hb) hb')
      clear hb0 hb hb' f0 f1 f2 f3 g0 g1 g2 g3
      go_wp2_with fail
      go_ret
      exact ⟨rfl, HB.out⟩
  · have hres := cmpQ_apart hne
    obtain ⟨a1, b1, p1, rfl, _⟩ := Num.form h1
    obtain ⟨a2, b2, p2, rfl, _⟩ := Num.form h2
    have HS := Lib.hid (fun W => side_any (decide (r.num < 0)) a1 b1 p1 W)
    rw [← hres] at HS
    have hb : (decide (r.num < 0) == decide (s.num < 0)) = false := by simpa using hne
    clear h1 h2 z1 z2 hk HW hres hne
    generalize cmpQ r s = t at *
    generalize decide (r.num < 0) = neg1 at *
    generalize decide (s.num < 0) = neg2 at *
    go_enter Tryz.func35, Tryz.ntmps35
    go_wp2_with fail
    obtain ⟨W0, hW0, hb0, ⟨f0, f1, f2, f3⟩, ⟨g0, g1, g2, g3⟩⟩ := box2 w (.bool neg1) (u a1) (u b1) (.pointer p1) (.bool neg2) (u a2) (u b2) (.pointer p2); rw [← hW0]; clear hW0
    refine (HS.out _).mono ?_
    rintro e W1 ⟨rfl, hb1⟩
    have HB := Lib.hid (chain1 hb0 hb1)
    clear hb0 hb1
    go_wp2_with fail
    go_ret
    exact ⟨rfl, HB.out⟩

end Go.Proofs.YtojploidgagmgaaGreatDoor

/- Q.reciprocal: 1 / x. -/
namespace Go.Proofs.YtojploidgagmgaaGreatDoor
open Go Go.RowKit Go.Proofs Lim

theorem inv_parts {r : Rat} (h : r.num ≠ 0) : (r⁻¹).num = sgn (neg? r) r.den ∧ (r⁻¹).den = r.num.natAbs := by
  show (Rat.inv r).num = _ ∧ (Rat.inv r).den = _
  unfold Rat.inv sgn
  by_cases h1 : r.num < 0
  · simp [h1]
  · have h2 : 0 < r.num := by omega
    simp [h1, h2]

theorem recip_q (v : Value) (r : Rat) (w : World) (h : IsQ w v r) (h0 : r.num ≠ 0) :
    Calls Tryz.prog 87 #[v] w (QNew w r⁻¹) := by
  obtain ⟨in1, in2⟩ := inv_parts h0
  cases h with
  | low l hv hd hn hdB =>
    subst hv
    have hq : ∀ W, IsQ W (lo (neg? r && !decide (r.den = 0)) r.den (difLo r.num.natAbs 1)) r⁻¹ := by
      intro W
      unfold IsQ
      rw [in1, in2, sgn_abs, sgn_neg]
      exact Num.low _ rfl (difLo_one hn (by omega)).symm hdB hn
    have HQ := Lib.hid hq
    have HS := Lib.hid (fun W => small_any (neg? r) r.den r.num.natAbs hn W)
    have HBo := Lib.hid (fun W => bottom_any (neg? r) r.num.natAbs l none (hd ▸ hdB) W)
    rw [← hd] at HBo
    clear hq in1 in2 hn hdB hd h0
    show Calls Tryz.prog 87 #[lo (neg? r) r.num.natAbs l] w (QNew w r⁻¹)
    generalize r⁻¹ = t at *
    generalize neg? r = sg at *
    generalize r.num.natAbs = n at *
    generalize r.den = d at *
    generalize (sg && !decide (d = 0)) = sg2 at *
    generalize difLo n 1 = l2 at *
    go_enter Tryz.func87, Tryz.ntmps87
    go_wp2_with fail
    obtain ⟨W0, hW0, hb0, hx0, hz⟩ := box2w w (.bool sg) (u n) (u l) (.pointer none); rw [← hW0]; clear hW0; obtain ⟨f0, f1, f2, f3⟩ := hx0.cells; have HZ := Lib.hid hz; have HW0 := Lib.hid hb0; have hb0 := Below.refl W0.heap.size W0; clear hz hx0; have n1 : ¬ w.heap.size = w.heap.size + 1 := (by omega); have n2 : ¬ w.heap.size + 1 = w.heap.size := (by omega)
    go_region_held3 (fun w' => (w'.cell? ⟨w.heap.size, 0, none⟩ = some (.bool sg) ∧ w'.cell? ⟨w.heap.size, 1, none⟩ = some (u n) ∧ w'.cell? ⟨w.heap.size, 2, none⟩ = some (u l) ∧ w'.cell? ⟨w.heap.size, 3, none⟩ = some (.pointer none))) (go_keep) (first | ((with_reducible refine (HBo.out _).mono ?_); rintro e W1 ⟨rfl, hb⟩; (obtain ⟨_, _, _, _⟩ := boxq (b := w.heap.size) hb (by assumption) (by assumption) (by assumption) (by assumption))) | ((with_reducible refine (HS.out _).mono ?_); rintro e W2 ⟨rfl, hb'⟩; (obtain ⟨_, _, _, _⟩ := boxq (b := w.heap.size) hb' (by assumption) (by assumption) (by assumption) (by assumption)); have hb3 := chain1 (chain hb0 hb) hb'; (have hz := HZ.out.below hb3 (Nat.le_refl _); have zf := hz.frozen; obtain ⟨z0, z1, z2, z3⟩ := hz.cells; have zf0 := zf 0; have zf1 := zf 1; have zf2 := zf 2; have zf3 := zf 3; clear zf hz)))
    have hz := HZ.out.below hb3 (Nat.le_refl _)
    have hfin := QNew.stored (a0 := .bool sg2) (a1 := u d) (a2 := u l2) (a3 := .pointer none) hz (HQ.out _) (chain1 HW0.out hb3) (by omega)
    have HFin := Lib.hid hfin
    clear hfin hb hb' hb0 hb3 hz f0 f1 f2 f3
    go_wp2_with fail
    refine bodyPost_ret (v := lo sg2 d l2) (by simp [results, Tryz.results87, go_sem, z0, z1, z2, z3]) rfl ?_
    exact HFin.out
  | wide b x y hv hx hy h1 h2 hB h0' hd =>
    subst hv
    have HF := Lib.hid (fun W (hW : Below w.heap.size w W) => fraction_any (neg? r) y x r.den r.num.natAbs W (h2.below hW (Nat.le_refl _)) (h1.below hW (Nat.le_refl _)) h0')
    have HR := Lib.hid (fun W W' e (h : FracPost W (neg? r) r.den r.num.natAbs e W') => h.q in1 in2)
    obtain ⟨xa, xl, xc, rfl, _⟩ := h1.form
    obtain ⟨ya, yl, yc, rfl, _⟩ := h2.form
    clear h1 h2 in1 in2 hB h0' hd h0
    show Calls Tryz.prog 87 #[wi (neg? r) ⟨b, 0, none⟩] w (QNew w r⁻¹)
    generalize r⁻¹ = t at *
    generalize neg? r = sg at *
    generalize r.num.natAbs = n at *
    generalize r.den = d at *
    go_enter Tryz.func87, Tryz.ntmps87
    go_wp2_with fail
    have p1 : ¬ b = w.heap.size + 1 := by have := World.block_lt_of_cell? w _ hx; simp at this; omega
    have p2 : ¬ w.heap.size + 1 = b := fun h => p1 h.symm
    obtain ⟨W0, hW0, hb0, hx0, hz⟩ := box2w w (.bool sg) (u 0) (u 0) (.pointer (some ⟨b, 0, none⟩)); rw [← hW0]; clear hW0; obtain ⟨f0, f1, f2, f3⟩ := hx0.cells; have HZ := Lib.hid hz; have HW0 := Lib.hid hb0; have hb0 := Below.refl W0.heap.size W0; clear hz hx0; have n1 : ¬ w.heap.size = w.heap.size + 1 := (by omega); have n2 : ¬ w.heap.size + 1 = w.heap.size := (by omega)
    have hx : W0.cell? ⟨b, 0, none⟩ = some (.slice xa xl xc) := (HW0.out.cell (p := ⟨b, 0, none⟩) (World.block_lt_of_cell? w _ hx)).trans hx
    have hy : W0.cell? ⟨b, 1, none⟩ = some (.slice ya yl yc) := (HW0.out.cell (p := ⟨b, 1, none⟩) (World.block_lt_of_cell? w _ hy)).trans hy
    go_region_held3 (fun w' => (w'.cell? ⟨w.heap.size, 0, none⟩ = some (.bool sg) ∧ w'.cell? ⟨w.heap.size, 3, none⟩ = some (.pointer (some ⟨b, 0, none⟩))) ∧ w'.cell? ⟨b, 0, none⟩ = some (.slice xa xl xc) ∧ w'.cell? ⟨b, 1, none⟩ = some (.slice ya yl yc)) (go_keep) (((with_reducible refine (HF.out _ (HW0.out.drew)).mono ?_); rintro e W1 hF; have hQ := HR.out _ _ _ hF; obtain ⟨v, rfl, hv, hb⟩ := hQ; (obtain ⟨_, _, _, _⟩ := boxq (b := w.heap.size) hb (by assumption) (by assumption) (by assumption) (by assumption)); have hb3 := chain hb0 hb; have k1 := (hb3.cell (p := ⟨b, 0, none⟩) (World.block_lt_of_cell? W0 _ hx)).trans hx; have k2 := (hb3.cell (p := ⟨b, 1, none⟩) (World.block_lt_of_cell? W0 _ hy)).trans hy; have hv' := hv; obtain ⟨sg9, a9, b9, p9, rfl⟩ := hv'.form; (have hz := HZ.out.below hb3 (Nat.le_refl _); have zf := hz.frozen; obtain ⟨z0, z1, z2, z3⟩ := hz.cells; have zf0 := zf 0; have zf1 := zf 1; have zf2 := zf 2; have zf3 := zf 3; clear zf hz)))
    have hz := HZ.out.below hb3 (Nat.le_refl _)
    have hfin := QNew.stored (a0 := .bool sg9) (a1 := u a9) (a2 := u b9) (a3 := .pointer p9) hz hv (chain1 HW0.out hb3) (by omega)
    have HFin := Lib.hid hfin
    clear hfin hb hb0 hb3 hz f0 f1 f2 f3 hv hv' hF
    go_wp2_with fail
    refine bodyPost_ret (v := .agg #[.bool sg9, u a9, u b9, .pointer p9]) (by simp [results, Tryz.results87, go_sem, z0, z1, z2, z3]) rfl ?_
    exact HFin.out

end Go.Proofs.YtojploidgagmgaaGreatDoor

/- Q.Over: quotients, or the error. -/
namespace Go.Proofs.YtojploidgagmgaaGreatDoor
open Go Go.RowKit Go.Proofs Lim

theorem Siz.inv {r : Rat} {k : Nat} (h : Siz r k) (h0 : r.num ≠ 0) : Siz r⁻¹ k := by
  obtain ⟨e1, e2⟩ := inv_parts h0
  unfold Siz at *
  rw [e1, e2, sgn_abs]
  exact ⟨h.2, h.1⟩

theorem over_zero (v1 v2 : Value) (r s : Rat) (w : World) (h1 : IsQ w v1 r) (h2 : IsQ w v2 s) (h0 : s.num = 0) :
    Calls Tryz.prog 38 #[v1, v2] w (fun e w' => e = .returned (.tuple #[lo false 0 0, .int .i64 10]) ∧ Below w.heap.size w w') := by
  have HS := Lib.hid (fun W (hW : Below w.heap.size w W) => sign_q v2 s W (h2.below hW (Nat.le_refl _)))
  have hs : sign s = 0 := by unfold sign; rw [if_pos h0]
  rw [hs] at HS
  obtain ⟨neg1, a1, b1, p1, rfl⟩ := h1.form
  obtain ⟨neg2, a2, b2, p2, rfl⟩ := h2.form
  clear h1 h2 hs h0
  go_enter Tryz.func38, Tryz.ntmps38
  go_wp2_with fail
  obtain ⟨W0, hW0, hb0, ⟨f0, f1, f2, f3⟩, ⟨g0, g1, g2, g3⟩, hz⟩ := box3 w (.bool neg1) (u a1) (u b1) (.pointer p1) (.bool neg2) (u a2) (u b2) (.pointer p2); rw [← hW0]; clear hW0; have HZ := Lib.hid hz; have HW0 := Lib.hid hb0; have hb0 := Below.refl W0.heap.size W0; clear hz
  refine (HS.out _ (chain1 HW0.out hb0)).mono ?_
  rintro e W1 ⟨rfl, hb⟩
  (obtain ⟨_, _, _, _⟩ := boxq (b := w.heap.size) hb (by assumption) (by assumption) (by assumption) (by assumption); obtain ⟨_, _, _, _⟩ := boxq (b := w.heap.size + 1) hb (by assumption) (by assumption) (by assumption) (by assumption))
  have HA := Lib.hid (chain1 hb0 hb)
  clear hb0 hb f0 f1 f2 f3 g0 g1 g2 g3
  (have hz := HZ.out.below HA.out (Nat.le_refl _); have zf := hz.frozen; obtain ⟨z0, z1, z2, z3⟩ := hz.cells; have zf0 := zf 0; have zf1 := zf 1; have zf2 := zf 2; have zf3 := zf 3; clear zf hz)
  go_wp2_with fail
  refine bodyPost_ret (v := .tuple #[lo false 0 0, .int .i64 10]) (by simp [results, Tryz.results38, go_sem, z0, z1, z2, z3]) rfl ?_
  exact ⟨rfl, store4 HW0.out HA.out (by omega) _ _ _ _⟩

/-- What Over leaves if the divisor is not 0. -/
def OverQ (w : World) (r : Rat) (e : Ending) (w' : World) : Prop := ∃ v, e = .returned (.tuple #[v, .int .i64 0]) ∧ IsQ w' v r ∧ Below w.heap.size w w'

theorem over_q (v1 v2 : Value) (r s : Rat) (k : Nat) (w : World) (h1 : IsQ w v1 r) (h2 : IsQ w v2 s) (h0 : s.num ≠ 0) (z1 : Siz r k) (z2 : Siz s k) (hk : (k : Int) ≤ 1073741824) (hG : Gr w) :
    Calls Tryz.prog 38 #[v1, v2] w (OverQ w (r / s)) := by
  have HS := Lib.hid (fun W (hW : Below w.heap.size w W) => sign_q v2 s W (h2.below hW (Nat.le_refl _)))
  have hs : ((sign s : Int) == 0) = false := by unfold sign; rw [if_neg h0]; split <;> rfl
  have HR := Lib.hid (fun W (hW : Below w.heap.size w W) => recip_q v2 s W (h2.below hW (Nat.le_refl _)) h0)
  have HT := Lib.hid (fun v W (hv : IsQ W v s⁻¹) (hW : Below w.heap.size w W) => times_q v1 v r s⁻¹ k W (h1.below hW (Nat.le_refl _)) hv z1 (z2.inv h0) hk (hG.below hW hG.size))
  rw [← Rat.div_def] at HT
  obtain ⟨neg1, a1, b1, p1, rfl⟩ := h1.form
  obtain ⟨neg2, a2, b2, p2, rfl⟩ := h2.form
  clear h1 h2 h0 z1 z2 hk hG
  generalize r / s = t at *
  generalize s⁻¹ = s' at *
  generalize sign s = sv at *
  go_enter Tryz.func38, Tryz.ntmps38
  go_wp2_with fail
  obtain ⟨W0, hW0, hb0, ⟨f0, f1, f2, f3⟩, ⟨g0, g1, g2, g3⟩, hz⟩ := box3 w (.bool neg1) (u a1) (u b1) (.pointer p1) (.bool neg2) (u a2) (u b2) (.pointer p2); rw [← hW0]; clear hW0; have HZ := Lib.hid hz; have HW0 := Lib.hid hb0; have hb0 := Below.refl W0.heap.size W0; clear hz
  refine (HS.out _ (chain1 HW0.out hb0)).mono ?_
  rintro e W1 ⟨rfl, hb⟩
  (obtain ⟨_, _, _, _⟩ := boxq (b := w.heap.size) hb (by assumption) (by assumption) (by assumption) (by assumption); obtain ⟨_, _, _, _⟩ := boxq (b := w.heap.size + 1) hb (by assumption) (by assumption) (by assumption) (by assumption))
  have HA := Lib.hid (chain1 hb0 hb)
  clear hb0 hb f0 f1 f2 f3 g0 g1 g2 g3
  have n1 : ¬ w.heap.size = w.heap.size + 1 + 1 := by omega
  have n2 : ¬ w.heap.size + 1 + 1 = w.heap.size := by omega
  go_wp2_with fail
  go_region_held3 (fun w' => (w'.cell? ⟨w.heap.size, 0, none⟩ = some (.bool neg1) ∧ w'.cell? ⟨w.heap.size, 1, none⟩ = some (u a1) ∧ w'.cell? ⟨w.heap.size, 2, none⟩ = some (u b1) ∧ w'.cell? ⟨w.heap.size, 3, none⟩ = some (.pointer p1)) ∧ (w'.cell? ⟨w.heap.size + 1, 0, none⟩ = some (.bool neg2) ∧ w'.cell? ⟨w.heap.size + 1, 1, none⟩ = some (u a2) ∧ w'.cell? ⟨w.heap.size + 1, 2, none⟩ = some (u b2) ∧ w'.cell? ⟨w.heap.size + 1, 3, none⟩ = some (.pointer p2))) (go_keep) (first | ((with_reducible refine (HR.out _ ((chain1 HW0.out HA.out).drew)).mono ?_); rintro e W2 ⟨vn, rfl, hvn, hb⟩; (obtain ⟨_, _, _, _⟩ := boxq (b := w.heap.size) hb (by assumption) (by assumption) (by assumption) (by assumption); obtain ⟨_, _, _, _⟩ := boxq (b := w.heap.size + 1) hb (by assumption) (by assumption) (by assumption) (by assumption)); obtain ⟨_, _, _, _, rfl⟩ := hvn.form) | ((with_reducible refine (HT.out _ _ hvn (chain1 HW0.out (chain HA.out hb))).mono ?_); rintro e W9 ⟨v, rfl, hv, hb'⟩; (obtain ⟨_, _, _, _⟩ := boxq (b := w.heap.size) hb' (by assumption) (by assumption) (by assumption) (by assumption); obtain ⟨_, _, _, _⟩ := boxq (b := w.heap.size + 1) hb' (by assumption) (by assumption) (by assumption) (by assumption)); have hv' := hv; obtain ⟨sg9, a9, b9, p9, rfl⟩ := hv'.form; have hb3 := chain1 (chain HA.out hb) hb'; (have hz := HZ.out.below hb3 (Nat.le_refl _); have zf := hz.frozen; obtain ⟨z0, z1, z2, z3⟩ := hz.cells; have zf0 := zf 0; have zf1 := zf 1; have zf2 := zf 2; have zf3 := zf 3; clear zf hz)))
  have hz := HZ.out.below hb3 (Nat.le_refl _)
  have hfin := QNew.stored (a0 := .bool sg9) (a1 := u a9) (a2 := u b9) (a3 := .pointer p9) hz hv (chain1 HW0.out hb3) (by omega)
  have HFin := Lib.hid hfin
  clear hfin hv hv' hvn hb hb' hb3 hz
  go_wp2_with fail
  refine bodyPost_ret (v := .tuple #[.agg #[.bool sg9, u a9, u b9, .pointer p9], .int .i64 0]) (by simp [results, Tryz.results38, go_sem, z0, z1, z2, z3]) rfl ?_
  obtain ⟨v, hv, hq, hbb⟩ := HFin.out
  injection hv with hv
  subst hv
  exact ⟨_, rfl, hq, hbb⟩

end Go.Proofs.YtojploidgagmgaaGreatDoor

/- Int: integers as numbers. -/
namespace Go.Proofs.YtojploidgagmgaaGreatDoor
open Go Go.RowKit Go.Proofs Lim

theorem int_q (i : Int) (h1 : -9223372036854775808 ≤ i) (h2 : i ≤ 9223372036854775807) (w : World) :
    Calls Tryz.prog 19 #[.int .i64 i] w (QNew w (i : Rat)) := by
  have hB : i.natAbs < B := by unfold B; omega
  have hl : difLo 1 1 = 0 := by rfl
  have hq : ∀ W, IsQ W (lo (decide (i < 0) && !decide (i.natAbs = 0)) i.natAbs (difLo 1 1)) (i : Rat) := by
    intro W
    rw [hl]
    unfold IsQ
    rw [Rat.num_intCast, Rat.den_intCast]
    have : (decide (i < 0) && !decide (i.natAbs = 0)) = decide (i < 0) := by
      rw [Bool.eq_iff_iff]; simp; omega
    rw [this]
    exact Num.low 0 rfl rfl hB (by decide)
  have HQ := Lib.hid hq
  have HS := Lib.hid (fun W => small_any (decide (i < 0)) i.natAbs 1 (by decide) W)
  by_cases hi : i < 0
  · have hw : IntKind.u64.wrap (-(IntKind.u64.wrap i)) = (i.natAbs : Int) := by
      rw [IntKind.wrap_u64, IntKind.wrap_u64]
      unfold B at hB
      omega
    have hw2 : IntKind.u64.wrap (-i) = (i.natAbs : Int) := by
      rw [IntKind.wrap_u64]
      unfold B at hB
      omega
    simp only [hi, decide_true] at HS HQ
    clear hq hl hB
    have HHB := Lib.hid h1
    generalize (i : Rat) = t at *
    generalize (true && !decide (i.natAbs = 0)) = sg at *
    go_enter Tryz.func19, Tryz.ntmps19
    go_wp2_with fail
    obtain ⟨W0, hW0, hb0, hz, hs⟩ := boxz w; rw [← hW0]; clear hW0; have HZ := Lib.hid hz; have HW0 := Lib.hid hb0; have hb0 := Below.refl W0.heap.size W0; clear hz
    clear hs
    generalize difLo 1 1 = l2 at *
    generalize hn : i.natAbs = n at *
    refine (HS.out _).mono ?_
    rintro e W1 ⟨rfl, hb⟩
    have hb3 := chain1 hb0 hb
    have hz := HZ.out.below hb3 (Nat.le_refl _)
    have hfin := QNew.stored (a0 := .bool sg) (a1 := u n) (a2 := u l2) (a3 := .pointer none) hz (HQ.out _) (chain1 HW0.out hb3) (Nat.le_refl _)
    have HFin := Lib.hid hfin
    (have hz := HZ.out.below hb3 (Nat.le_refl _); have zf := hz.frozen; obtain ⟨z0, z1, z2, z3⟩ := hz.cells; have zf0 := zf 0; have zf1 := zf 1; have zf2 := zf 2; have zf3 := zf 3; clear zf hz)
    clear hfin hb hb0 hb3 hz hn
    go_wp2_with fail
    refine bodyPost_ret (v := lo sg n l2) (by simp [results, Tryz.results19, go_sem, z0, z1, z2, z3]) rfl ?_
    exact HFin.out
  · have hw : IntKind.u64.wrap i = (i.natAbs : Int) := by
      rw [IntKind.wrap_u64]
      unfold B at hB
      omega
    simp only [hi, decide_false] at HS HQ
    clear hq hl hB
    have HHB := Lib.hid h1
    generalize (i : Rat) = t at *
    generalize (false && !decide (i.natAbs = 0)) = sg at *
    go_enter Tryz.func19, Tryz.ntmps19
    go_wp2_with fail
    obtain ⟨W0, hW0, hb0, hz, hs⟩ := boxz w; rw [← hW0]; clear hW0; have HZ := Lib.hid hz; have HW0 := Lib.hid hb0; have hb0 := Below.refl W0.heap.size W0; clear hz
    clear hs
    generalize difLo 1 1 = l2 at *
    generalize hn : i.natAbs = n at *
    refine (HS.out _).mono ?_
    rintro e W1 ⟨rfl, hb⟩
    have hb3 := chain1 hb0 hb
    have hz := HZ.out.below hb3 (Nat.le_refl _)
    have hfin := QNew.stored (a0 := .bool sg) (a1 := u n) (a2 := u l2) (a3 := .pointer none) hz (HQ.out _) (chain1 HW0.out hb3) (Nat.le_refl _)
    have HFin := Lib.hid hfin
    (have hz := HZ.out.below hb3 (Nat.le_refl _); have zf := hz.frozen; obtain ⟨z0, z1, z2, z3⟩ := hz.cells; have zf0 := zf 0; have zf1 := zf 1; have zf2 := zf 2; have zf3 := zf 3; clear zf hz)
    clear hfin hb hb0 hb3 hz hn
    go_wp2_with fail
    refine bodyPost_ret (v := lo sg n l2) (by simp [results, Tryz.results19, go_sem, z0, z1, z2, z3]) rfl ?_
    exact HFin.out

end Go.Proofs.YtojploidgagmgaaGreatDoor

/- Of: fractions of integers, or the error. -/
namespace Go.Proofs.YtojploidgagmgaaGreatDoor
open Go Go.RowKit Go.Proofs Lim

theorem siz_int (i : Int) (h1 : -9223372036854775808 ≤ i) (h2 : i ≤ 9223372036854775807) : Siz (i : Rat) 1 := by
  unfold Siz
  rw [Rat.num_intCast, Rat.den_intCast, Nat.pow_one]
  exact ⟨by unfold B; omega, by decide⟩

/-- What Of leaves. -/
def OfPost (w : World) (i j : Int) (e : Ending) (w' : World) : Prop :=
  (j = 0 ∧ e = .returned (.tuple #[lo false 0 0, .int .i64 10]) ∧ Below w.heap.size w w') ∨ (j ≠ 0 ∧ OverQ w ((i : Rat) / (j : Rat)) e w')

theorem of_q (i j : Int) (h1 : -9223372036854775808 ≤ i) (h2 : i ≤ 9223372036854775807) (h3 : -9223372036854775808 ≤ j) (h4 : j ≤ 9223372036854775807) (w : World) (hG : Gr w) :
    Calls Tryz.prog 22 #[.int .i64 i, .int .i64 j] w (OfPost w i j) := by
  have HI := Lib.hid (fun W => int_q i h1 h2 W)
  have HJ := Lib.hid (fun W => int_q j h3 h4 W)
  have HO := Lib.hid (fun v1 v2 W (hv1 : IsQ W v1 (i : Rat)) (hv2 : IsQ W v2 (j : Rat)) (hW : Below w.heap.size w W) => show Calls Tryz.prog 38 #[v1, v2] W (OfPost W i j) by
    by_cases hj : j = 0
    · exact (over_zero v1 v2 _ _ W hv1 hv2 (by rw [Rat.num_intCast]; exact hj)).mono fun _ _ h => .inl ⟨hj, h.1, h.2⟩
    · exact (over_q v1 v2 _ _ 1 W hv1 hv2 (by rw [Rat.num_intCast]; exact hj) (siz_int i h1 h2) (siz_int j h3 h4) (by decide) (hG.below hW hG.size)).mono fun _ _ h => .inr ⟨hj, h⟩)
  clear hG h1 h2 h3 h4
  go_enter Tryz.func22, Tryz.ntmps22
  go_wp2_with fail
  obtain ⟨W0, hW0, hb0, hz, hs⟩ := boxz w; rw [← hW0]; clear hW0; have HZ := Lib.hid hz; have HW0 := Lib.hid hb0; have hb0 := Below.refl W0.heap.size W0; clear hz
  clear hs
  refine (HI.out _).mono ?_
  rintro e W1 ⟨v1, rfl, hv1, hb⟩
  have HV1 := Lib.hid hv1
  have HA := Lib.hid (chain1 hb0 hb)
  obtain ⟨_, _, _, _, rfl⟩ := hv1.form
  clear hb hb0 hv1
  go_wp2_with fail
  refine (HJ.out _).mono ?_
  rintro e W2 ⟨v2, rfl, hv2, hb⟩
  have HV1' := Lib.hid (HV1.out.below hb (Nat.le_refl _))
  have HV2 := Lib.hid hv2
  have HA2 := Lib.hid (chain1 HA.out hb)
  obtain ⟨_, _, _, _, rfl⟩ := hv2.form
  clear hb hv2
  go_wp2_with fail
  refine (HO.out _ _ _ HV1'.out HV2.out (chain1 HW0.out HA2.out)).mono ?_
  rintro e W3 (⟨hj, rfl, hb⟩ | ⟨hj, v, rfl, hv, hb⟩)
  · have hb3 := chain1 HA2.out hb
    have HB3 := Lib.hid hb3
    have HHJ := Lib.hid hj
    (have hz := HZ.out.below hb3 (Nat.le_refl _); have zf := hz.frozen; obtain ⟨z0, z1, z2, z3⟩ := hz.cells; have zf0 := zf 0; have zf1 := zf 1; have zf2 := zf 2; have zf3 := zf 3; clear zf hz)
    clear hb hb3 hj
    go_wp2_with fail
    refine bodyPost_ret (v := .tuple #[lo false 0 0, .int .i64 10]) (by simp [results, Tryz.results22, go_sem, z0, z1, z2, z3]) rfl ?_
    exact .inl ⟨HHJ.out, rfl, store4 HW0.out HB3.out (Nat.le_refl _) _ _ _ _⟩
  · have hb3 := chain1 HA2.out hb
    have hv' := hv
    obtain ⟨sg9, a9, b9, p9, rfl⟩ := hv'.form
    have hz := HZ.out.below hb3 (Nat.le_refl _)
    have hfin := QNew.stored (a0 := .bool sg9) (a1 := u a9) (a2 := u b9) (a3 := .pointer p9) hz hv (chain1 HW0.out hb3) (Nat.le_refl _)
    have HFin := Lib.hid hfin
    have HHJ := Lib.hid hj
    (have hz := HZ.out.below hb3 (Nat.le_refl _); have zf := hz.frozen; obtain ⟨z0, z1, z2, z3⟩ := hz.cells; have zf0 := zf 0; have zf1 := zf 1; have zf2 := zf 2; have zf3 := zf 3; clear zf hz)
    clear hfin hv hv' hb hb3 hz hj
    go_wp2_with fail
    refine bodyPost_ret (v := .tuple #[.agg #[.bool sg9, u a9, u b9, .pointer p9], .int .i64 0]) (by simp [results, Tryz.results22, go_sem, z0, z1, z2, z3]) rfl ?_
    obtain ⟨v, hv, hq, hbb⟩ := HFin.out
    injection hv with hv
    subst hv
    exact .inr ⟨HHJ.out, _, rfl, hq, hbb⟩

end Go.Proofs.YtojploidgagmgaaGreatDoor

/- Q.Int64: a number as an int64, if it is one. -/
namespace Go.Proofs.YtojploidgagmgaaGreatDoor
open Go Go.RowKit Go.Proofs Lim

/-- Whether a number is an int64. -/
def isI64 (r : Rat) : Bool := decide (r.den = 1 ∧ -9223372036854775808 ≤ r.num ∧ r.num ≤ 9223372036854775807)

theorem int64_q (v : Value) (r : Rat) (w : World) (h : IsQ w v r) :
    Calls Tryz.prog 21 #[v] w (Val w (.tuple #[.int .i64 (if isI64 r then r.num else 0), .bool (isI64 r)])) := by
  cases h with
  | low l hv hd hn hdB =>
    subst hv
    by_cases hl : l = 0
    · subst hl
      unfold B at hn
      by_cases hneg : r.num < 0
      · by_cases hb : r.num.natAbs ≤ 9223372036854775808
        · have hi : isI64 r = true := by unfold isI64; simp; omega
          have hw : wrap64 (-(wrap64 (r.num.natAbs : Int))) = r.num := by
            unfold wrap64; omega
          have hc : ((r.num.natAbs : Nat) : Int) ≤ 9223372036854775808 := by omega
          rw [hi, if_pos rfl, decide_eq_true hneg]
          clear hd hn hdB hi hneg hb
          generalize r.num.natAbs = n at *
          generalize r.num = i at *
          go_enter Tryz.func21, Tryz.ntmps21
          go_wp2_with fail
          refine bodyPost_ret (v := .tuple #[.int .i64 i, .bool true]) (by simp [results, Tryz.results21, go_sem, hw]) rfl ?_
          exact ⟨rfl, below1 w _⟩
        · have hi : isI64 r = false := by unfold isI64; simp; omega
          have hc : ¬ ((r.num.natAbs : Nat) : Int) ≤ 9223372036854775808 := by omega
          rw [hi, if_neg (by simp), decide_eq_true hneg]
          clear hd hn hdB hi hneg hb
          generalize r.num.natAbs = n at *
          go_enter Tryz.func21, Tryz.ntmps21
          go_wp2_with fail
          refine bodyPost_ret (v := .tuple #[.int .i64 0, .bool false]) (by simp [results, Tryz.results21, go_sem]) rfl ?_
          exact ⟨rfl, below1 w _⟩
      · by_cases hb : r.num.natAbs < 9223372036854775808
        · have hi : isI64 r = true := by unfold isI64; simp; omega
          have hw : r.num = ((r.num.natAbs : Nat) : Int) := by omega
          have HW := Lib.hid hw
          clear hw
          have hc : ((r.num.natAbs : Nat) : Int) < 9223372036854775808 := by omega
          rw [hi, if_pos rfl, decide_eq_false hneg]
          clear hd hn hdB hi hneg hb
          generalize r.num.natAbs = n at *
          generalize r.num = i at *
          go_enter Tryz.func21, Tryz.ntmps21
          go_wp2_with fail
          refine bodyPost_ret (v := .tuple #[.int .i64 i, .bool true]) (by simp [results, Tryz.results21, go_sem, HW.out]) rfl ?_
          exact ⟨rfl, below1 w _⟩
        · have hi : isI64 r = false := by unfold isI64; simp; omega
          have hc : ¬ ((r.num.natAbs : Nat) : Int) < 9223372036854775808 := by omega
          rw [hi, if_neg (by simp), decide_eq_false hneg]
          clear hd hn hdB hi hneg hb
          generalize r.num.natAbs = n at *
          go_enter Tryz.func21, Tryz.ntmps21
          go_wp2_with fail
          refine bodyPost_ret (v := .tuple #[.int .i64 0, .bool false]) (by simp [results, Tryz.results21, go_sem]) rfl ?_
          exact ⟨rfl, below1 w _⟩
    · have hi : isI64 r = false := by unfold isI64; simp; omega
      have hc : (((l : Nat) : Int) != 0) = true := by rw [bne_iff_ne]; omega
      rw [hi, if_neg (by simp)]
      clear hd hn hdB hi hl
      generalize r.num.natAbs = n at *
      generalize decide (r.num < 0) = sg at *
      go_enter Tryz.func21, Tryz.ntmps21
      go_wp2_with fail
      refine bodyPost_ret (v := .tuple #[.int .i64 0, .bool false]) (by simp [results, Tryz.results21, go_sem]) rfl ?_
      exact ⟨rfl, below1 w _⟩
  | wide b x y hv hx hy h1 h2 hB h0 hd =>
    subst hv
    have hi : isI64 r = false := by unfold isI64; unfold B at hB; simp; omega
    rw [hi, if_neg (by simp)]
    clear hx hy h1 h2 hB h0 hd hi
    generalize decide (r.num < 0) = sg at *
    go_enter Tryz.func21, Tryz.ntmps21
    go_wp2_with fail
    refine bodyPost_ret (v := .tuple #[.int .i64 0, .bool false]) (by simp [results, Tryz.results21, go_sem]) rfl ?_
    exact ⟨rfl, below1 w _⟩

end Go.Proofs.YtojploidgagmgaaGreatDoor

namespace Go.Proofs.YtojploidgagmgaaGreatDoor.Lim

/-- A number rounded towards 0. -/
def cutI (r : Rat) : Int := if r.num < 0 then -((r.num.natAbs / r.den : Nat) : Int) else ((r.num.natAbs / r.den : Nat) : Int)

theorem cutI_natAbs (r : Rat) : (cutI r).natAbs = r.num.natAbs / r.den := by
  unfold cutI
  generalize r.num.natAbs / r.den = q
  split <;> omega

theorem floor_cut (r : Rat) : r.floor = if r.num < 0 ∧ r.num.natAbs % r.den ≠ 0 then cutI r - 1 else cutI r := by
  rw [Rat.floor_def]
  unfold cutI
  have hd := r.den_pos
  have h1 := Nat.div_add_mod r.num.natAbs r.den
  have h2 := Nat.mod_lt r.num.natAbs hd
  have h3 := Int.mul_ediv_add_emod r.num r.den
  have h4 := Int.emod_nonneg r.num (b := (r.den : Int)) (by omega)
  have h5 := Int.emod_lt_of_pos r.num (b := (r.den : Int)) (by omega)
  generalize r.num / (r.den : Int) = Q at *
  generalize r.num % (r.den : Int) = R at *
  generalize r.num.natAbs / r.den = q at *
  generalize r.num.natAbs % r.den = m at *
  generalize r.den = d at *
  by_cases hn : r.num < 0
  · have e : (r.num : Int) = -((d : Int) * q + m) := by have : (r.num.natAbs : Int) = -r.num := by omega
                                                        rw [← h1] at this; push_cast at this; omega
    by_cases hm : m = 0
    · subst hm
      rw [if_neg (by simp), if_pos hn]
      have : (d : Int) * (Q + q) = -R := by rw [Int.mul_add]; rw [e] at h3; push_cast at h3; omega
      have h0 : Q + q = 0 := by
        rcases Int.lt_trichotomy (Q + q) 0 with h | h | h
        · have := Int.mul_le_mul_of_nonneg_left (show Q + q ≤ -1 by omega) (show (0:Int) ≤ d by omega); omega
        · exact h
        · have := Int.mul_le_mul_of_nonneg_left (show 1 ≤ Q + q by omega) (show (0:Int) ≤ d by omega); omega
      omega
    · rw [if_pos ⟨hn, hm⟩, if_pos hn]
      have : (d : Int) * (Q + q) = -R - m := by rw [Int.mul_add]; omega
      have h0 : Q + q = -1 := by
        rcases Int.lt_trichotomy (Q + q) (-1) with h | h | h
        · have := Int.mul_le_mul_of_nonneg_left (show Q + q ≤ -2 by omega) (show (0:Int) ≤ d by omega); omega
        · exact h
        · have := Int.mul_le_mul_of_nonneg_left (show 0 ≤ Q + q by omega) (show (0:Int) ≤ d by omega); omega
      omega
  · have e : (r.num : Int) = (d : Int) * q + m := by have : (r.num.natAbs : Int) = r.num := by omega
                                                     rw [← h1] at this; push_cast at this; omega
    rw [if_neg (by simp [hn]), if_neg hn]
    have : (d : Int) * (Q - q) = m - R := by rw [Int.mul_sub]; omega
    have h0 : Q - q = 0 := by
      rcases Int.lt_trichotomy (Q - q) 0 with h | h | h
      · have := Int.mul_le_mul_of_nonneg_left (show Q - q ≤ -1 by omega) (show (0:Int) ≤ d by omega); omega
      · exact h
      · have := Int.mul_le_mul_of_nonneg_left (show 1 ≤ Q - q by omega) (show (0:Int) ≤ d by omega); omega
    omega

theorem den_one_iff (r : Rat) : r.num.natAbs % r.den = 0 ↔ r.den = 1 := by
  constructor
  · intro h
    have := r.reduced
    have hd : r.den ∣ r.num.natAbs := Nat.dvd_of_mod_eq_zero h
    have hg : Nat.gcd r.num.natAbs r.den = r.den := Nat.gcd_eq_right hd
    rw [Nat.Coprime, hg] at this
    exact this
  · intro h; rw [h, Nat.mod_one]

theorem ceil_neg (r : Rat) : r.ceil = -((-r).floor) := by
  unfold Rat.ceil
  rw [Rat.floor_def, Rat.neg_num, Rat.neg_den]
  have hd := r.den_pos
  by_cases h : r.den = 1
  · rw [if_pos h, h]; simp
  · rw [if_neg h]
    have h0 : r.num % (r.den : Int) ≠ 0 := by
      intro e
      refine h ((den_one_iff r).1 (Nat.mod_eq_zero_of_dvd ?_))
      have := Int.natAbs_dvd_natAbs.2 (Int.dvd_of_emod_eq_zero e)
      simpa using this
    rw [Int.neg_ediv, if_neg (by rw [Int.dvd_iff_emod_eq_zero]; exact h0)]
    have : Int.sign (r.den : Int) = 1 := Int.sign_eq_one_of_pos (by omega)
    omega

theorem ceil_cut (r : Rat) : r.ceil = if ¬ r.num < 0 ∧ r.num.natAbs % r.den ≠ 0 then cutI r + 1 else cutI r := by
  rw [ceil_neg, floor_cut]
  unfold cutI
  rw [Rat.neg_num, Rat.neg_den, Int.natAbs_neg]
  rcases Int.lt_trichotomy r.num 0 with h | h | h
  · rw [if_neg (by omega), if_neg (by simp; omega), if_neg (by omega), if_pos h]
  · rw [h]; simp
  · rw [if_pos (show -r.num < 0 by omega), if_neg (show ¬ r.num < 0 by omega)]
    by_cases hm : r.num.natAbs % r.den = 0
    · simp [hm]
    · rw [if_pos ⟨by omega, hm⟩, if_pos ⟨by omega, hm⟩]; omega
end Go.Proofs.YtojploidgagmgaaGreatDoor.Lim

/- Q.cut: a number rounded towards 0. -/
namespace Go.Proofs.YtojploidgagmgaaGreatDoor
open Go Go.RowKit Go.Proofs Lim

/-- What cut leaves. -/
def CutPost (w : World) (t : Rat) (rest : Bool) (e : Ending) (w' : World) : Prop := ∃ v, e = .returned (.tuple #[v, .bool rest]) ∧ IsQ w' v t ∧ Below w.heap.size w w'

/-- Whether there is a rest. -/
def hasRest (r : Rat) : Bool := decide (r.num.natAbs % r.den ≠ 0)

theorem cutI_neg (r : Rat) (n : Nat) (hn : n = r.num.natAbs / r.den) : (neg? r && !decide (n = 0)) = decide (cutI r < 0) := by
  unfold cutI
  rw [← hn, Bool.eq_iff_iff]
  by_cases h : r.num < 0
  · simp [h]; omega
  · simp [h]

theorem cut_low (r : Rat) (l : Nat) (hd : r.den = l + 1) (hn : r.num.natAbs < B) (hdB : r.den < B) (w : World) :
    Calls Tryz.prog 106 #[lo (neg? r) r.num.natAbs l] w (CutPost w ((cutI r : Int) : Rat) (hasRest r)) := by
  have hqB : r.num.natAbs / r.den < B := Nat.lt_of_le_of_lt (Nat.div_le_self _ _) hn
  have hmB : r.num.natAbs % r.den < B := Nat.lt_of_le_of_lt (Nat.mod_le _ _) hn
  have hq : ∀ W, IsQ W (lo (neg? r && !decide (r.num.natAbs / r.den = 0)) (r.num.natAbs / r.den) (difLo 1 1)) ((cutI r : Int) : Rat) := by
    intro W
    unfold IsQ
    rw [Rat.num_intCast, Rat.den_intCast, cutI_natAbs, cutI_neg r _ rfl]
    exact Num.low 0 rfl rfl hqB (by decide)
  have HQ := Lib.hid hq
  have HS := Lib.hid (fun W => show Calls Tryz.prog 93 #[.bool (neg? r), u (r.num.natAbs / r.den), .int .u64 1] W (Val W (lo (neg? r && !decide (r.num.natAbs / r.den = 0)) (r.num.natAbs / r.den) (difLo 1 1))) from small_any (neg? r) (r.num.natAbs / r.den) 1 (by decide) W)
  have HBo := Lib.hid (fun W => bottom_any (neg? r) r.num.natAbs l none (hd ▸ hdB) W)
  rw [← hd] at HBo
  have d0 : ¬ r.den = 0 := r.den_nz
  unfold hasRest
  clear hq hd
  generalize ((cutI r : Int) : Rat) = t at *
  generalize neg? r = sg at *
  generalize r.num.natAbs = n at *
  generalize r.den = d at *
  have t1 : Int.tdiv ((n : Nat) : Int) ((d : Nat) : Int) = ((n / d : Nat) : Int) := by rw [Int.tdiv_eq_ediv_of_nonneg (by omega), Int.natCast_ediv]
  have t2 : Int.tmod ((n : Nat) : Int) ((d : Nat) : Int) = ((n % d : Nat) : Int) := by rw [Int.tmod_eq_emod_of_nonneg (by omega), Int.natCast_emod]
  have t3 : ((n : Nat) : Int) / ((d : Nat) : Int) = ((n / d : Nat) : Int) := by rw [Int.natCast_ediv]
  have t4 : ((n : Nat) : Int) % ((d : Nat) : Int) = ((n % d : Nat) : Int) := by rw [Int.natCast_emod]
  generalize n / d = q at *
  generalize n % d = m at *
  have w1 : IntKind.u64.wrap ((q : Nat) : Int) = (q : Int) := wrap_nat hqB
  have w2 : IntKind.u64.wrap ((m : Nat) : Int) = (m : Int) := wrap_nat hmB
  have hm0 : (((m : Nat) : Int) != 0) = decide (m ≠ 0) := by rw [Bool.eq_iff_iff]; simp
  have y1 : (((d : Nat) : Int) == 0) = false := by rw [beq_eq_false_iff_ne]; omega
  generalize decide (m ≠ 0) = rest at *
  generalize (sg && !decide (q = 0)) = sg2 at *
  generalize difLo 1 1 = l2 at *
  go_enter Tryz.func106, Tryz.ntmps106
  go_wp2_with fail
  obtain ⟨W0, hW0, hb0, hx0, hz⟩ := box2w w (.bool sg) (u n) (u l) (.pointer none); rw [← hW0]; clear hW0; obtain ⟨f0, f1, f2, f3⟩ := hx0.cells; have HZ := Lib.hid hz; have HW0 := Lib.hid hb0; have hb0 := Below.refl W0.heap.size W0; clear hz hx0; have n1 : ¬ w.heap.size = w.heap.size + 1 := (by omega); have n2 : ¬ w.heap.size + 1 = w.heap.size := (by omega)
  go_region_held3 (fun w' => (w'.cell? ⟨w.heap.size, 0, none⟩ = some (.bool sg) ∧ w'.cell? ⟨w.heap.size, 1, none⟩ = some (u n) ∧ w'.cell? ⟨w.heap.size, 2, none⟩ = some (u l) ∧ w'.cell? ⟨w.heap.size, 3, none⟩ = some (.pointer none))) (go_keep) (first | ((with_reducible refine (HBo.out _).mono ?_); rintro e W1 ⟨rfl, hb⟩; (obtain ⟨_, _, _, _⟩ := boxq (b := w.heap.size) hb (by assumption) (by assumption) (by assumption) (by assumption)); have hb0 : Below W0.heap.size W0 W1 := (by first | exact chain hb0 hb | exact chain1 hb0 hb); clear hb; (have hz := HZ.out.below hb0 (Nat.le_refl _); have zf := hz.frozen; obtain ⟨z0, z1, z2, z3⟩ := hz.cells; have zf0 := zf 0; have zf1 := zf 1; have zf2 := zf 2; have zf3 := zf 3; clear zf hz)) | ((with_reducible refine (HS.out _).mono ?_); rintro e W2 ⟨rfl, hb⟩; (obtain ⟨_, _, _, _⟩ := boxq (b := w.heap.size) hb (by assumption) (by assumption) (by assumption) (by assumption)); have hb0 : Below W0.heap.size W0 W2 := (by first | exact chain hb0 hb | exact chain1 hb0 hb); clear hb; (have hz := HZ.out.below hb0 (Nat.le_refl _); have zf := hz.frozen; obtain ⟨z0, z1, z2, z3⟩ := hz.cells; have zf0 := zf 0; have zf1 := zf 1; have zf2 := zf 2; have zf3 := zf 3; clear zf hz)))
  have hz := HZ.out.below hb0 (Nat.le_refl _)
  have hfin := QNew.stored (a0 := .bool sg2) (a1 := u q) (a2 := u l2) (a3 := .pointer none) hz (HQ.out _) (chain1 HW0.out hb0) (by omega)
  have HFin := Lib.hid hfin
  clear hfin hz f0 f1 f2 f3
  go_wp2_with fail
  refine bodyPost_ret (v := .tuple #[lo sg2 q l2, .bool rest]) (by simp [results, Tryz.results106, go_sem, z0, z1, z2, z3]) rfl ?_
  obtain ⟨v, hv, hq, hbb⟩ := HFin.out
  injection hv with hv
  subst hv
  exact ⟨_, rfl, hq, hbb⟩

theorem cut_wide (r : Rat) (b k : Nat) (x y : Value) (w : World) (hx : w.cell? ⟨b, 0, none⟩ = some x) (hy : w.cell? ⟨b, 1, none⟩ = some y) (h1 : IsNat w x r.num.natAbs) (h2 : IsNat w y r.den)
    (hk : r.num.natAbs < B ^ k) (hk2 : (k : Int) ≤ 1073741824) :
    Calls Tryz.prog 106 #[wi (neg? r) ⟨b, 0, none⟩] w (CutPost w ((cutI r : Int) : Rat) (hasRest r)) := by
  have HOv := Lib.hid (fun W (hW : Below w.heap.size w W) => over_any x y r.num.natAbs r.den k W (h1.below hW (Nat.le_refl _)) (h2.below hW (Nat.le_refl _)) r.den_pos hk hk2)
  have HW := Lib.hid (fun v W (hv : IsNat W v (r.num.natAbs / r.den)) => (whole_any (neg? r) v _ W hv).mono fun e W' h => h.q (r := ((cutI r : Int) : Rat)) (by rw [Rat.num_intCast]; unfold cutI sgn neg?; simp) (by rw [Rat.den_intCast]))
  obtain ⟨xa, xl, xc, rfl, _⟩ := h1.form
  obtain ⟨ya, yl, yc, rfl, _⟩ := h2.form
  unfold hasRest
  clear h1 h2 hk hk2
  generalize ((cutI r : Int) : Rat) = t at *
  generalize neg? r = sg at *
  obtain ⟨rest, hrest⟩ : ∃ rest, rest = decide (r.num.natAbs % r.den ≠ 0) := ⟨_, rfl⟩
  rw [← hrest]
  have HRest := Lib.hid hrest
  clear hrest
  go_enter Tryz.func106, Tryz.ntmps106
  go_wp2_with fail
  have p1 : ¬ b = w.heap.size + 1 := by have := World.block_lt_of_cell? w _ hx; simp at this; omega
  have p2 : ¬ w.heap.size + 1 = b := fun h => p1 h.symm
  obtain ⟨W0, hW0, hb0, hx0, hz⟩ := box2w w (.bool sg) (u 0) (u 0) (.pointer (some ⟨b, 0, none⟩)); rw [← hW0]; clear hW0; obtain ⟨f0, f1, f2, f3⟩ := hx0.cells; have HZ := Lib.hid hz; have HW0 := Lib.hid hb0; have hb0 := Below.refl W0.heap.size W0; clear hz hx0; have n1 : ¬ w.heap.size = w.heap.size + 1 := (by omega); have n2 : ¬ w.heap.size + 1 = w.heap.size := (by omega)
  have hx : W0.cell? ⟨b, 0, none⟩ = some (.slice xa xl xc) := (HW0.out.cell (p := ⟨b, 0, none⟩) (World.block_lt_of_cell? w _ hx)).trans hx
  have hy : W0.cell? ⟨b, 1, none⟩ = some (.slice ya yl yc) := (HW0.out.cell (p := ⟨b, 1, none⟩) (World.block_lt_of_cell? w _ hy)).trans hy
  go_region_held3 (fun w' => (w'.cell? ⟨w.heap.size, 0, none⟩ = some (.bool sg) ∧ w'.cell? ⟨w.heap.size, 3, none⟩ = some (.pointer (some ⟨b, 0, none⟩))) ∧ w'.cell? ⟨b, 0, none⟩ = some (.slice xa xl xc) ∧ w'.cell? ⟨b, 1, none⟩ = some (.slice ya yl yc)) (go_keep) (((with_reducible refine (HOv.out _ (HW0.out.drew)).mono ?_); rintro e W1 ⟨qv, rv, rfl, hqv, hrv, hb⟩; (obtain ⟨_, _, _, _⟩ := boxq (b := w.heap.size) hb (by assumption) (by assumption) (by assumption) (by assumption)); have hb3 := chain hb0 hb; have k1 := (hb3.cell (p := ⟨b, 0, none⟩) (World.block_lt_of_cell? W0 _ hx)).trans hx; have k2 := (hb3.cell (p := ⟨b, 1, none⟩) (World.block_lt_of_cell? W0 _ hy)).trans hy; obtain ⟨qa, ql, qc, rfl, _⟩ := hqv.form; obtain ⟨ra, rl, rc, rfl, _, hrz, _⟩ := hrv.form; (have hz := HZ.out.below hb3 (Nat.le_refl _); have zf := hz.frozen; obtain ⟨z0, z1, z2, z3⟩ := hz.cells; have zf0 := zf 0; have zf1 := zf 1; have zf2 := zf 2; have zf3 := zf 3; clear zf hz)))
  have hrb : (((rl : Nat) : Int) != 0) = rest := by
    rw [HRest.out, Bool.eq_iff_iff]
    simp
    exact not_congr hrz
  have HQV := Lib.hid hqv
  have HA := Lib.hid hb3
  clear hqv hrv hb hb0 hb3 hrz k1 k2 hx hy f0 f1 f2 f3 z0 z1 z2 z3 zf0 zf1 zf2 zf3 p1 p2
  go_wp2_with fail
  refine (HW.out _ _ HQV.out).mono ?_
  rintro e W2 ⟨v, rfl, hv, hb⟩
  have hb3 := chain1 HA.out hb
  have hv' := hv
  obtain ⟨sg9, a9, b9, p9, rfl⟩ := hv'.form
  have hz := HZ.out.below hb3 (Nat.le_refl _)
  have hfin := QNew.stored (a0 := .bool sg9) (a1 := u a9) (a2 := u b9) (a3 := .pointer p9) hz hv (chain1 HW0.out hb3) (by omega)
  have HFin := Lib.hid hfin
  (have hz := HZ.out.below hb3 (Nat.le_refl _); have zf := hz.frozen; obtain ⟨z0, z1, z2, z3⟩ := hz.cells; have zf0 := zf 0; have zf1 := zf 1; have zf2 := zf 2; have zf3 := zf 3; clear zf hz)
  clear hfin hv hv' hb hb3 hz
  go_wp2_with fail
  refine bodyPost_ret (v := .tuple #[.agg #[.bool sg9, u a9, u b9, .pointer p9], .bool rest]) (by simp [results, Tryz.results106, go_sem, z0, z1, z2, z3]) rfl ?_
  obtain ⟨v, hv, hq, hbb⟩ := HFin.out
  injection hv with hv
  subst hv
  exact ⟨_, rfl, hq, hbb⟩

theorem cut_q (v : Value) (r : Rat) (k : Nat) (w : World) (h : IsQ w v r) (z : Siz r k) (hk : (k : Int) ≤ 1073741824) :
    Calls Tryz.prog 106 #[v] w (CutPost w ((cutI r : Int) : Rat) (hasRest r)) := by
  cases h with
  | low l hv hd hn hdB => subst hv; exact cut_low r l hd hn hdB w
  | wide b x y hv hx hy h1 h2 hB h0 hd => subst hv; exact cut_wide r b k x y w hx hy h1 h2 z.1 hk

end Go.Proofs.YtojploidgagmgaaGreatDoor

/- Floor, Ceil. -/
namespace Go.Proofs.YtojploidgagmgaaGreatDoor
open Go Go.RowKit Go.Proofs Lim

theorem Siz.cut {r : Rat} {k : Nat} (h : Siz r k) (hk : 1 ≤ k) : Siz ((cutI r : Int) : Rat) k := by
  unfold Siz at *
  rw [Rat.num_intCast, Rat.den_intCast, cutI_natAbs]
  refine ⟨Nat.lt_of_le_of_lt (Nat.div_le_self _ _) h.1, ?_⟩
  exact Nat.lt_of_lt_of_le (show 1 < B ^ 1 by decide) (Nat.pow_le_pow_right B_pos hk)

/-- One more box behind a result. -/
theorem QNew.alloc {w W : World} {r : Rat} {e : Ending} (h : QNew w r e W) (o : Obj) : QNew w r e (W.alloc o) := by
  obtain ⟨v, he, hq, hb⟩ := h
  exact ⟨v, he, hq.below (below1 W o) (Nat.le_refl _), hb.trans ((below1 W o).mono hb.size)⟩

theorem Siz.le {r : Rat} {k j : Nat} (h : Siz r k) (hj : k ≤ j) : Siz r j :=
  ⟨Nat.lt_of_lt_of_le h.1 (Nat.pow_le_pow_right B_pos hj), Nat.lt_of_lt_of_le h.2 (Nat.pow_le_pow_right B_pos hj)⟩

theorem floor_q (v : Value) (r : Rat) (k : Nat) (w : World) (h : IsQ w v r) (z : Siz r k) (hk1 : 1 ≤ k) (hk : ((k + k + 1 : Nat) : Int) ≤ 1073741824) (hG : Gr w) :
    Calls Tryz.prog 45 #[v] w (QNew w ((r.floor : Int) : Rat)) := by
  have HC := Lib.hid (fun W (hW : Below w.heap.size w W) => cut_q v r k W (h.below hW (Nat.le_refl _)) z (by omega))
  have HI := Lib.hid (fun W => int_q 1 (by decide) (by decide) W)
  have HM := Lib.hid (fun v1 v2 W (hv1 : IsQ W v1 ((cutI r : Int) : Rat)) (hv2 : IsQ W v2 ((1 : Int) : Rat)) (hW : Below w.heap.size w W) => minus_q v1 v2 ((cutI r : Int) : Rat) ((1 : Int) : Rat) k W hv1 hv2 (z.cut hk1) ((siz_int 1 (by decide) (by decide)).le hk1) hk (hG.below hW hG.size))
  have hfl := floor_cut r
  obtain ⟨a1, b1, p1, rfl, _⟩ := Num.form h
  clear h z hk
  by_cases hr : r.num.natAbs % r.den ≠ 0
  · have hr' : hasRest r = true := by unfold hasRest; simpa using hr
    by_cases hc : r.num < 0
    · rw [if_pos ⟨hc, hr⟩] at hfl
      rw [hfl, Rat.intCast_sub]
      rw [decide_eq_true hc, hr'] at HC
      rw [decide_eq_true hc]
      clear hfl hc hr hr'
      generalize ((cutI r : Int) : Rat) = t at *
      generalize ((1 : Int) : Rat) = t1 at *
      generalize t - t1 = tt at *
      go_enter Tryz.func45, Tryz.ntmps45
      go_wp2_with fail
      obtain ⟨W0, hW0, hb0, hx0, hz⟩ := box2w w (.bool true) (u a1) (u b1) (.pointer p1); rw [← hW0]; clear hW0; obtain ⟨f0, f1, f2, f3⟩ := hx0.cells; have HZ := Lib.hid hz; have HW0 := Lib.hid hb0; have hb0 := Below.refl W0.heap.size W0; clear hz hx0; have n1 : ¬ w.heap.size = w.heap.size + 1 := (by omega); have n2 : ¬ w.heap.size + 1 = w.heap.size := (by omega)
      refine (HC.out _ (chain1 HW0.out hb0)).mono ?_
      rintro e W1 ⟨nv, rfl, hnv, hb⟩
      (obtain ⟨_, _, _, _⟩ := boxq (b := w.heap.size) hb (by assumption) (by assumption) (by assumption) (by assumption))
      have hb3 := chain1 hb0 hb
      (have hz := HZ.out.below hb3 (Nat.le_refl _); have zf := hz.frozen; obtain ⟨z0, z1, z2, z3⟩ := hz.cells; have zf0 := zf 0; have zf1 := zf 1; have zf2 := zf 2; have zf3 := zf 3; clear zf hz)
      obtain ⟨sn, an, bn, pn, rfl⟩ := hnv.form
      have HNV := Lib.hid hnv
      have HA := Lib.hid hb3
      clear hnv hb hb0 hb3 HC
      have q0 : w.heap.size < W1.heap.size := World.block_lt_of_cell? W1 ⟨w.heap.size, 0, none⟩ (by assumption)
      have q1 : w.heap.size + 1 < W1.heap.size := World.block_lt_of_cell? W1 ⟨w.heap.size + 1, 0, none⟩ (by assumption)
      clear f0 f1 f2 f3
      go_wp2_with fail
      obtain ⟨W2, hW, hb, ⟨g0, g1, g2, g3⟩⟩ := box1 W1 (.bool sn) (u an) (u bn) (.pointer pn); rw [← hW]; clear hW
      have hb2 := chain1 HA.out hb
      have HNV := Lib.hid (HNV.out.below hb (Nat.le_refl _))
      have q2 : ¬ W1.heap.size = w.heap.size + 1 := by omega
      have q3 : ¬ w.heap.size + 1 = W1.heap.size := by omega
      have q4 : W1.heap.size ≠ w.heap.size + 1 := by omega
      clear q0 q1 z0 z1 z2 z3 zf0 zf1 zf2 zf3 HA hb
      generalize W1.heap.size = bn1 at *
      go_region_held3 (fun w' => (w'.cell? ⟨bn1, 0, none⟩ = some (.bool sn) ∧ w'.cell? ⟨bn1, 1, none⟩ = some (u an) ∧ w'.cell? ⟨bn1, 2, none⟩ = some (u bn) ∧ w'.cell? ⟨bn1, 3, none⟩ = some (.pointer pn))) (go_keep) (first | ((with_reducible refine (HI.out _).mono ?_); rintro e W3 ⟨v1, rfl, hv1, hb⟩; have hb3 := chain hb2 hb; have HN3 := (HNV.out.below (Below.refl W2.heap.size W2).drew (Nat.le_refl _)).below hb (Nat.le_refl _); (have hh := boxq (b := bn1) hb g0 g1 g2 g3; clear g0 g1 g2 g3; obtain ⟨g0, g1, g2, g3⟩ := hh); obtain ⟨_, _, _, _, rfl⟩ := hv1.form) | ((with_reducible refine (HM.out _ _ _ HN3 hv1 (chain1 HW0.out hb3)).mono ?_); rintro e W4 ⟨v2, rfl, hv2, hb'⟩; have hb4 := chain1 hb3 hb'; (have hh := boxq (b := bn1) hb' g0 g1 g2 g3; clear g0 g1 g2 g3; obtain ⟨g0, g1, g2, g3⟩ := hh); have hv' := hv2; obtain ⟨sg9, a9, b9, p9, rfl⟩ := hv'.form; (have hz := HZ.out.below hb4 (Nat.le_refl _); have zf := hz.frozen; obtain ⟨z0, z1, z2, z3⟩ := hz.cells; have zf0 := zf 0; have zf1 := zf 1; have zf2 := zf 2; have zf3 := zf 3; clear zf hz)))
      have hz := HZ.out.below hb4 (Nat.le_refl _)
      have hfin := QNew.stored (a0 := .bool sg9) (a1 := u a9) (a2 := u b9) (a3 := .pointer p9) hz hv2 (chain1 HW0.out hb4) (by omega)
      have HFin := Lib.hid hfin
      clear hfin hv2 hv' hb hb' hb4 hb3 hb2 hz
      go_wp2_with fail
      refine bodyPost_ret (v := .agg #[.bool sg9, u a9, u b9, .pointer p9]) (by simp [results, Tryz.results45, go_sem, z0, z1, z2, z3]) rfl ?_
      exact HFin.out
    · rw [if_neg (fun h => hc h.1)] at hfl
      rw [hfl]
      rw [decide_eq_false hc, hr'] at HC
      rw [decide_eq_false hc]
      clear hfl hc hr hr' HI HM
      generalize ((cutI r : Int) : Rat) = t at *
      go_enter Tryz.func45, Tryz.ntmps45
      go_wp2_with fail
      obtain ⟨W0, hW0, hb0, hx0, hz⟩ := box2w w (.bool false) (u a1) (u b1) (.pointer p1); rw [← hW0]; clear hW0; obtain ⟨f0, f1, f2, f3⟩ := hx0.cells; have HZ := Lib.hid hz; have HW0 := Lib.hid hb0; have hb0 := Below.refl W0.heap.size W0; clear hz hx0; have n1 : ¬ w.heap.size = w.heap.size + 1 := (by omega); have n2 : ¬ w.heap.size + 1 = w.heap.size := (by omega)
      refine (HC.out _ (chain1 HW0.out hb0)).mono ?_
      rintro e W1 ⟨nv, rfl, hnv, hb⟩
      (obtain ⟨_, _, _, _⟩ := boxq (b := w.heap.size) hb (by assumption) (by assumption) (by assumption) (by assumption))
      have hb3 := chain1 hb0 hb
      (have hz := HZ.out.below hb3 (Nat.le_refl _); have zf := hz.frozen; obtain ⟨z0, z1, z2, z3⟩ := hz.cells; have zf0 := zf 0; have zf1 := zf 1; have zf2 := zf 2; have zf3 := zf 3; clear zf hz)
      obtain ⟨sn, an, bn, pn, rfl⟩ := hnv.form
      have HNV := Lib.hid hnv
      have HA := Lib.hid hb3
      clear hnv hb hb0 hb3 HC
      have q0 : w.heap.size < W1.heap.size := World.block_lt_of_cell? W1 ⟨w.heap.size, 0, none⟩ (by assumption)
      have q1 : w.heap.size + 1 < W1.heap.size := World.block_lt_of_cell? W1 ⟨w.heap.size + 1, 0, none⟩ (by assumption)
      clear f0 f1 f2 f3
      have hb2 := HA.out
      have hz := HZ.out.below hb2 (Nat.le_refl _)
      have hfin := (QNew.stored (a0 := .bool sn) (a1 := u an) (a2 := u bn) (a3 := .pointer pn) hz HNV.out (chain1 HW0.out hb2) (by omega)).alloc (.cells #[.bool sn, u an, u bn, .pointer pn] 26)
      have HFin := Lib.hid hfin
      clear hfin hb2 hz HNV HA
      go_wp2_with fail
      refine bodyPost_ret (v := .agg #[.bool sn, u an, u bn, .pointer pn]) (by simp [results, Tryz.results45, go_sem, z0, z1, z2, z3, q1]) rfl ?_
      exact HFin.out
  · have hr' : hasRest r = false := by unfold hasRest; simpa using hr
    rw [if_neg (fun h => hr h.2)] at hfl
    rw [hfl]
    rw [hr'] at HC
    clear hfl hr hr' HI HM
    generalize ((cutI r : Int) : Rat) = t at *
    generalize decide (r.num < 0) = sg at *
    go_enter Tryz.func45, Tryz.ntmps45
    go_wp2_with fail
    obtain ⟨W0, hW0, hb0, hx0, hz⟩ := box2w w (.bool sg) (u a1) (u b1) (.pointer p1); rw [← hW0]; clear hW0; obtain ⟨f0, f1, f2, f3⟩ := hx0.cells; have HZ := Lib.hid hz; have HW0 := Lib.hid hb0; have hb0 := Below.refl W0.heap.size W0; clear hz hx0; have n1 : ¬ w.heap.size = w.heap.size + 1 := (by omega); have n2 : ¬ w.heap.size + 1 = w.heap.size := (by omega)
    refine (HC.out _ (chain1 HW0.out hb0)).mono ?_
    rintro e W1 ⟨nv, rfl, hnv, hb⟩
    (obtain ⟨_, _, _, _⟩ := boxq (b := w.heap.size) hb (by assumption) (by assumption) (by assumption) (by assumption))
    have hb3 := chain1 hb0 hb
    (have hz := HZ.out.below hb3 (Nat.le_refl _); have zf := hz.frozen; obtain ⟨z0, z1, z2, z3⟩ := hz.cells; have zf0 := zf 0; have zf1 := zf 1; have zf2 := zf 2; have zf3 := zf 3; clear zf hz)
    obtain ⟨sn, an, bn, pn, rfl⟩ := hnv.form
    have HNV := Lib.hid hnv
    have HA := Lib.hid hb3
    clear hnv hb hb0 hb3 HC
    have q0 : w.heap.size < W1.heap.size := World.block_lt_of_cell? W1 ⟨w.heap.size, 0, none⟩ (by assumption)
    have q1 : w.heap.size + 1 < W1.heap.size := World.block_lt_of_cell? W1 ⟨w.heap.size + 1, 0, none⟩ (by assumption)
    clear f0 f1 f2 f3
    have hb2 := HA.out
    have hz := HZ.out.below hb2 (Nat.le_refl _)
    have hfin := (QNew.stored (a0 := .bool sn) (a1 := u an) (a2 := u bn) (a3 := .pointer pn) hz HNV.out (chain1 HW0.out hb2) (by omega)).alloc (.cells #[.bool sn, u an, u bn, .pointer pn] 26)
    have HFin := Lib.hid hfin
    clear hfin hb2 hz HNV HA
    go_wp2_with fail
    refine bodyPost_ret (v := .agg #[.bool sn, u an, u bn, .pointer pn]) (by simp [results, Tryz.results45, go_sem, z0, z1, z2, z3, q1]) rfl ?_
    exact HFin.out

theorem ceil_q (v : Value) (r : Rat) (k : Nat) (w : World) (h : IsQ w v r) (z : Siz r k) (hk1 : 1 ≤ k) (hk : ((k + k + 1 : Nat) : Int) ≤ 1073741824) (hG : Gr w) :
    Calls Tryz.prog 47 #[v] w (QNew w ((r.ceil : Int) : Rat)) := by
  have HC := Lib.hid (fun W (hW : Below w.heap.size w W) => cut_q v r k W (h.below hW (Nat.le_refl _)) z (by omega))
  have HI := Lib.hid (fun W => int_q 1 (by decide) (by decide) W)
  have HM := Lib.hid (fun v1 v2 W (hv1 : IsQ W v1 ((cutI r : Int) : Rat)) (hv2 : IsQ W v2 ((1 : Int) : Rat)) (hW : Below w.heap.size w W) => plus_q v1 v2 ((cutI r : Int) : Rat) ((1 : Int) : Rat) k W hv1 hv2 (z.cut hk1) ((siz_int 1 (by decide) (by decide)).le hk1) hk (hG.below hW hG.size))
  have hfl := ceil_cut r
  obtain ⟨a1, b1, p1, rfl, _⟩ := Num.form h
  clear h z hk
  by_cases hr : r.num.natAbs % r.den ≠ 0
  · have hr' : hasRest r = true := by unfold hasRest; simpa using hr
    by_cases hc : ¬ r.num < 0
    · rw [if_pos ⟨hc, hr⟩] at hfl
      rw [hfl, Rat.intCast_add]
      rw [decide_eq_false hc, hr'] at HC
      rw [decide_eq_false hc]
      clear hfl hc hr hr'
      generalize ((cutI r : Int) : Rat) = t at *
      generalize ((1 : Int) : Rat) = t1 at *
      generalize t + t1 = tt at *
      go_enter Tryz.func47, Tryz.ntmps47
      go_wp2_with fail
      obtain ⟨W0, hW0, hb0, hx0, hz⟩ := box2w w (.bool false) (u a1) (u b1) (.pointer p1); rw [← hW0]; clear hW0; obtain ⟨f0, f1, f2, f3⟩ := hx0.cells; have HZ := Lib.hid hz; have HW0 := Lib.hid hb0; have hb0 := Below.refl W0.heap.size W0; clear hz hx0; have n1 : ¬ w.heap.size = w.heap.size + 1 := (by omega); have n2 : ¬ w.heap.size + 1 = w.heap.size := (by omega)
      refine (HC.out _ (chain1 HW0.out hb0)).mono ?_
      rintro e W1 ⟨nv, rfl, hnv, hb⟩
      (obtain ⟨_, _, _, _⟩ := boxq (b := w.heap.size) hb (by assumption) (by assumption) (by assumption) (by assumption))
      have hb3 := chain1 hb0 hb
      (have hz := HZ.out.below hb3 (Nat.le_refl _); have zf := hz.frozen; obtain ⟨z0, z1, z2, z3⟩ := hz.cells; have zf0 := zf 0; have zf1 := zf 1; have zf2 := zf 2; have zf3 := zf 3; clear zf hz)
      obtain ⟨sn, an, bn, pn, rfl⟩ := hnv.form
      have HNV := Lib.hid hnv
      have HA := Lib.hid hb3
      clear hnv hb hb0 hb3 HC
      have q0 : w.heap.size < W1.heap.size := World.block_lt_of_cell? W1 ⟨w.heap.size, 0, none⟩ (by assumption)
      have q1 : w.heap.size + 1 < W1.heap.size := World.block_lt_of_cell? W1 ⟨w.heap.size + 1, 0, none⟩ (by assumption)
      clear f0 f1 f2 f3
      go_wp2_with fail
      obtain ⟨W2, hW, hb, ⟨g0, g1, g2, g3⟩⟩ := box1 W1 (.bool sn) (u an) (u bn) (.pointer pn); rw [← hW]; clear hW
      have hb2 := chain1 HA.out hb
      have HNV := Lib.hid (HNV.out.below hb (Nat.le_refl _))
      have q2 : ¬ W1.heap.size = w.heap.size + 1 := by omega
      have q3 : ¬ w.heap.size + 1 = W1.heap.size := by omega
      have q4 : W1.heap.size ≠ w.heap.size + 1 := by omega
      clear q0 q1 z0 z1 z2 z3 zf0 zf1 zf2 zf3 HA hb
      generalize W1.heap.size = bn1 at *
      go_region_held3 (fun w' => (w'.cell? ⟨bn1, 0, none⟩ = some (.bool sn) ∧ w'.cell? ⟨bn1, 1, none⟩ = some (u an) ∧ w'.cell? ⟨bn1, 2, none⟩ = some (u bn) ∧ w'.cell? ⟨bn1, 3, none⟩ = some (.pointer pn))) (go_keep) (first | ((with_reducible refine (HI.out _).mono ?_); rintro e W3 ⟨v1, rfl, hv1, hb⟩; have hb3 := chain hb2 hb; have HN3 := (HNV.out.below (Below.refl W2.heap.size W2).drew (Nat.le_refl _)).below hb (Nat.le_refl _); (have hh := boxq (b := bn1) hb g0 g1 g2 g3; clear g0 g1 g2 g3; obtain ⟨g0, g1, g2, g3⟩ := hh); obtain ⟨_, _, _, _, rfl⟩ := hv1.form) | ((with_reducible refine (HM.out _ _ _ HN3 hv1 (chain1 HW0.out hb3)).mono ?_); rintro e W4 ⟨v2, rfl, hv2, hb'⟩; have hb4 := chain1 hb3 hb'; (have hh := boxq (b := bn1) hb' g0 g1 g2 g3; clear g0 g1 g2 g3; obtain ⟨g0, g1, g2, g3⟩ := hh); have hv' := hv2; obtain ⟨sg9, a9, b9, p9, rfl⟩ := hv'.form; (have hz := HZ.out.below hb4 (Nat.le_refl _); have zf := hz.frozen; obtain ⟨z0, z1, z2, z3⟩ := hz.cells; have zf0 := zf 0; have zf1 := zf 1; have zf2 := zf 2; have zf3 := zf 3; clear zf hz)))
      have hz := HZ.out.below hb4 (Nat.le_refl _)
      have hfin := QNew.stored (a0 := .bool sg9) (a1 := u a9) (a2 := u b9) (a3 := .pointer p9) hz hv2 (chain1 HW0.out hb4) (by omega)
      have HFin := Lib.hid hfin
      clear hfin hv2 hv' hb hb' hb4 hb3 hb2 hz
      go_wp2_with fail
      refine bodyPost_ret (v := .agg #[.bool sg9, u a9, u b9, .pointer p9]) (by simp [results, Tryz.results47, go_sem, z0, z1, z2, z3]) rfl ?_
      exact HFin.out
    · rw [if_neg (fun h => hc h.1)] at hfl
      rw [hfl]
      rw [decide_eq_true (Decidable.not_not.1 hc), hr'] at HC
      rw [decide_eq_true (Decidable.not_not.1 hc)]
      clear hfl hc hr hr' HI HM
      generalize ((cutI r : Int) : Rat) = t at *
      go_enter Tryz.func47, Tryz.ntmps47
      go_wp2_with fail
      obtain ⟨W0, hW0, hb0, hx0, hz⟩ := box2w w (.bool true) (u a1) (u b1) (.pointer p1); rw [← hW0]; clear hW0; obtain ⟨f0, f1, f2, f3⟩ := hx0.cells; have HZ := Lib.hid hz; have HW0 := Lib.hid hb0; have hb0 := Below.refl W0.heap.size W0; clear hz hx0; have n1 : ¬ w.heap.size = w.heap.size + 1 := (by omega); have n2 : ¬ w.heap.size + 1 = w.heap.size := (by omega)
      refine (HC.out _ (chain1 HW0.out hb0)).mono ?_
      rintro e W1 ⟨nv, rfl, hnv, hb⟩
      (obtain ⟨_, _, _, _⟩ := boxq (b := w.heap.size) hb (by assumption) (by assumption) (by assumption) (by assumption))
      have hb3 := chain1 hb0 hb
      (have hz := HZ.out.below hb3 (Nat.le_refl _); have zf := hz.frozen; obtain ⟨z0, z1, z2, z3⟩ := hz.cells; have zf0 := zf 0; have zf1 := zf 1; have zf2 := zf 2; have zf3 := zf 3; clear zf hz)
      obtain ⟨sn, an, bn, pn, rfl⟩ := hnv.form
      have HNV := Lib.hid hnv
      have HA := Lib.hid hb3
      clear hnv hb hb0 hb3 HC
      have q0 : w.heap.size < W1.heap.size := World.block_lt_of_cell? W1 ⟨w.heap.size, 0, none⟩ (by assumption)
      have q1 : w.heap.size + 1 < W1.heap.size := World.block_lt_of_cell? W1 ⟨w.heap.size + 1, 0, none⟩ (by assumption)
      clear f0 f1 f2 f3
      have hb2 := HA.out
      have hz := HZ.out.below hb2 (Nat.le_refl _)
      have hfin := (QNew.stored (a0 := .bool sn) (a1 := u an) (a2 := u bn) (a3 := .pointer pn) hz HNV.out (chain1 HW0.out hb2) (by omega)).alloc (.cells #[.bool sn, u an, u bn, .pointer pn] 26)
      have HFin := Lib.hid hfin
      clear hfin hb2 hz HNV HA
      go_wp2_with fail
      refine bodyPost_ret (v := .agg #[.bool sn, u an, u bn, .pointer pn]) (by simp [results, Tryz.results47, go_sem, z0, z1, z2, z3, q1]) rfl ?_
      exact HFin.out
  · have hr' : hasRest r = false := by unfold hasRest; simpa using hr
    rw [if_neg (fun h => hr h.2)] at hfl
    rw [hfl]
    rw [hr'] at HC
    clear hfl hr hr' HI HM
    generalize ((cutI r : Int) : Rat) = t at *
    generalize decide (r.num < 0) = sg at *
    go_enter Tryz.func47, Tryz.ntmps47
    go_wp2_with fail
    obtain ⟨W0, hW0, hb0, hx0, hz⟩ := box2w w (.bool sg) (u a1) (u b1) (.pointer p1); rw [← hW0]; clear hW0; obtain ⟨f0, f1, f2, f3⟩ := hx0.cells; have HZ := Lib.hid hz; have HW0 := Lib.hid hb0; have hb0 := Below.refl W0.heap.size W0; clear hz hx0; have n1 : ¬ w.heap.size = w.heap.size + 1 := (by omega); have n2 : ¬ w.heap.size + 1 = w.heap.size := (by omega)
    refine (HC.out _ (chain1 HW0.out hb0)).mono ?_
    rintro e W1 ⟨nv, rfl, hnv, hb⟩
    (obtain ⟨_, _, _, _⟩ := boxq (b := w.heap.size) hb (by assumption) (by assumption) (by assumption) (by assumption))
    have hb3 := chain1 hb0 hb
    (have hz := HZ.out.below hb3 (Nat.le_refl _); have zf := hz.frozen; obtain ⟨z0, z1, z2, z3⟩ := hz.cells; have zf0 := zf 0; have zf1 := zf 1; have zf2 := zf 2; have zf3 := zf 3; clear zf hz)
    obtain ⟨sn, an, bn, pn, rfl⟩ := hnv.form
    have HNV := Lib.hid hnv
    have HA := Lib.hid hb3
    clear hnv hb hb0 hb3 HC
    have q0 : w.heap.size < W1.heap.size := World.block_lt_of_cell? W1 ⟨w.heap.size, 0, none⟩ (by assumption)
    have q1 : w.heap.size + 1 < W1.heap.size := World.block_lt_of_cell? W1 ⟨w.heap.size + 1, 0, none⟩ (by assumption)
    clear f0 f1 f2 f3
    have hb2 := HA.out
    have hz := HZ.out.below hb2 (Nat.le_refl _)
    have hfin := (QNew.stored (a0 := .bool sn) (a1 := u an) (a2 := u bn) (a3 := .pointer pn) hz HNV.out (chain1 HW0.out hb2) (by omega)).alloc (.cells #[.bool sn, u an, u bn, .pointer pn] 26)
    have HFin := Lib.hid hfin
    clear hfin hb2 hz HNV HA
    go_wp2_with fail
    refine bodyPost_ret (v := .agg #[.bool sn, u an, u bn, .pointer pn]) (by simp [results, Tryz.results47, go_sem, z0, z1, z2, z3, q1]) rfl ?_
    exact HFin.out

end Go.Proofs.YtojploidgagmgaaGreatDoor

/- Q.Text. -/
namespace Go.Proofs.YtojploidgagmgaaGreatDoor
open Go Go.RowKit Go.Proofs Lim

theorem bapp (a b : List UInt8) : ((⟨a.toArray⟩ : ByteArray) ++ ⟨b.toArray⟩) = ⟨(a ++ b).toArray⟩ := by
  apply ByteArray.ext
  rw [ByteArray.data_append]
  simp

theorem bapp1 (c : UInt8) (b : List UInt8) : ((⟨#[c]⟩ : ByteArray) ++ ⟨b.toArray⟩) = ⟨(c :: b).toArray⟩ := bapp [c] b
theorem bapp2 (a : List UInt8) (c : UInt8) : ((⟨a.toArray⟩ : ByteArray) ++ ⟨#[c]⟩) = ⟨(a ++ [c]).toArray⟩ := bapp a [c]

theorem ntext_len {n k : Nat} (h : n < B ^ k) : (ntext n).length ≤ 20 * k + 1 := by
  unfold ntext
  split
  · simp
  · rw [List.length_reverse, List.length_map]
    have := digits_len_le h rfl
    omega

/-- A denominator of one limb that is not 1, or of more limbs. -/
theorem IsNat.not_one {w : World} {v : Value} {n : Nat} (h : IsNat w v n) (h0 : 0 < n) (h1 : n ≠ 1) :
    (∃ b o c, v = .slice (some ⟨b, o, none⟩) 1 c ∧ w.cell? ⟨b, o, none⟩ = some (u n)) ∨ (∃ ao l c, v = .slice ao l c ∧ l ≠ 1) := by
  rcases Nat.lt_or_ge n B with hB | hB
  · obtain ⟨b, o, c, rfl, hc⟩ := h.limb h0 hB
    exact .inl ⟨b, o, c, rfl, hc⟩
  · obtain ⟨ao, l, c, rfl, _, _, hl⟩ := h.form
    exact .inr ⟨ao, l, c, rfl, by have := hl.2 hB; omega⟩

theorem text_pos0 (v : Value) (N k : Nat) (w : World) (a1 b1 : Nat) (p1 : Option Addr) (hv : v = .agg #[.bool false, u a1, u b1, .pointer p1])
    (HP : Hid (∀ W, Below w.heap.size w W → Calls Tryz.prog 91 #[v] W (PartsPost W N 1))) (HT1 : Hid (∀ x W, IsNat W x N → Calls Tryz.prog 92 #[x] W (StrNew W (ntext N))))
    (HT2 : Hid (∀ x W, IsNat W x 1 → Calls Tryz.prog 92 #[x] W (StrNew W (ntext 1)))) (hl : (ntext N).length ≤ 21474836481) (hl2 : (ntext 1).length ≤ 21474836481) :
    Calls Tryz.prog 18 #[v] w (StrNew w (ntext N)) := by
  subst hv
  clear hl hl2
  generalize ntext N = TN at *
  go_enter Tryz.func18, Tryz.ntmps18
  go_wp2_with fail
  obtain ⟨W0, hW0, hb0, ⟨f0, f1, f2, f3⟩⟩ := box1 w (.bool false) (u a1) (u b1) (.pointer p1); rw [← hW0]; clear hW0
  refine (HP.out _ hb0).mono ?_
  rintro e W1 ⟨x, y, rfl, hx, hy, hb⟩
  (have hh := boxq (b := w.heap.size) hb f0 f1 f2 f3; clear f0 f1 f2 f3; obtain ⟨f0, f1, f2, f3⟩ := hh)
  obtain ⟨ya, yo, yc, rfl, hyc⟩ := hy.limb (by decide) (by decide)
  have HA := Lib.hid (chain1 hb0 hb)
  have HX := Lib.hid hx
  have HY := Lib.hid hy
  obtain ⟨xa, xl, xc, rfl, _⟩ := hx.form
  clear hb hb0 hx hy HP
  go_wp2_with fail
  refine (HT1.out _ _ HX.out).mono ?_
  rintro e W2 ⟨rfl, hb⟩
  (have hh := boxq (b := w.heap.size) hb f0 f1 f2 f3; clear f0 f1 f2 f3; obtain ⟨f0, f1, f2, f3⟩ := hh)
  have hyc2 : W2.cell? ⟨ya, yo, none⟩ = some (.int .u64 1) := (hb.cell (p := ⟨ya, yo, none⟩) (World.block_lt_of_cell? W1 _ hyc)).trans hyc
  have HA2 := Lib.hid (chain1 HA.out hb)
  have HY2 := Lib.hid (HY.out.below hb (Nat.le_refl _))
  clear hb HX HT1 hyc
  go_wp2_with fail
  go_ret
  refine ⟨?_, HA2.out⟩
  rfl

theorem text_pos1 (v : Value) (N k : Nat) (D : Nat) (hD0 : 0 < D) (hD1 : D ≠ 1) (w : World) (a1 b1 : Nat) (p1 : Option Addr) (hv : v = .agg #[.bool false, u a1, u b1, .pointer p1])
    (HP : Hid (∀ W, Below w.heap.size w W → Calls Tryz.prog 91 #[v] W (PartsPost W N D))) (HT1 : Hid (∀ x W, IsNat W x N → Calls Tryz.prog 92 #[x] W (StrNew W (ntext N))))
    (HT2 : Hid (∀ x W, IsNat W x D → Calls Tryz.prog 92 #[x] W (StrNew W (ntext D)))) (hl : (ntext N).length ≤ 21474836481) (hl2 : (ntext D).length ≤ 21474836481) :
    Calls Tryz.prog 18 #[v] w (StrNew w ((ntext N ++ 47 :: ntext D))) := by
  subst hv
  have l2 : ¬ 9223372036854775807 < (ntext N).length + 1 := by omega
  have l3 : ¬ 9223372036854775807 < (ntext N).length + 1 + (ntext D).length := by omega
  clear hl hl2
  generalize ntext N = TN at *
  generalize ntext D = TD at *
  go_enter Tryz.func18, Tryz.ntmps18
  go_wp2_with fail
  obtain ⟨W0, hW0, hb0, ⟨f0, f1, f2, f3⟩⟩ := box1 w (.bool false) (u a1) (u b1) (.pointer p1); rw [← hW0]; clear hW0
  refine (HP.out _ hb0).mono ?_
  rintro e W1 ⟨x, y, rfl, hx, hy, hb⟩
  (have hh := boxq (b := w.heap.size) hb f0 f1 f2 f3; clear f0 f1 f2 f3; obtain ⟨f0, f1, f2, f3⟩ := hh)
  rcases hy.not_one hD0 hD1 with ⟨ya, yo, yc, rfl, hyc⟩ | ⟨ao, yl, yc, rfl, hy1⟩
  · have HA := Lib.hid (chain1 hb0 hb)
    have HX := Lib.hid hx
    have HY := Lib.hid hy
    obtain ⟨xa, xl, xc, rfl, _⟩ := hx.form
    have hD : (((D : Nat) : Int) == 1) = false := by rw [beq_eq_false_iff_ne]; omega
    clear hb hb0 hx hy HP hD0 hD1
    go_wp2_with fail
    refine (HT1.out _ _ HX.out).mono ?_
    rintro e W2 ⟨rfl, hb⟩
    (have hh := boxq (b := w.heap.size) hb f0 f1 f2 f3; clear f0 f1 f2 f3; obtain ⟨f0, f1, f2, f3⟩ := hh)
    have hyc2 : W2.cell? ⟨ya, yo, none⟩ = some (u D) := (hb.cell (p := ⟨ya, yo, none⟩) (World.block_lt_of_cell? W1 _ hyc)).trans hyc
    have HA2 := Lib.hid (chain1 HA.out hb)
    have HY2 := Lib.hid (HY.out.below hb (Nat.le_refl _))
    clear hb HX HT1 hyc
    go_wp2_with fail
    refine (HT2.out _ _ HY2.out).mono ?_
    rintro e W3 ⟨rfl, hb⟩
    have HA3 := Lib.hid (chain1 HA2.out hb)
    clear hb HT2
    go_wp2_with fail
    go_ret
    refine ⟨?_, HA3.out⟩
    simp [bapp, bapp1, bapp2]
  · have HA := Lib.hid (chain1 hb0 hb)
    have HX := Lib.hid hx
    have HY := Lib.hid hy
    obtain ⟨xa, xl, xc, rfl, _⟩ := hx.form
    have hyl : (((yl : Nat) : Int) == 1) = false := by rw [beq_eq_false_iff_ne]; omega
    clear hb hb0 hx hy HP hD0 hD1 hy1
    go_wp2_with fail
    refine (HT1.out _ _ HX.out).mono ?_
    rintro e W2 ⟨rfl, hb⟩
    (have hh := boxq (b := w.heap.size) hb f0 f1 f2 f3; clear f0 f1 f2 f3; obtain ⟨f0, f1, f2, f3⟩ := hh)
    have HA2 := Lib.hid (chain1 HA.out hb)
    have HY2 := Lib.hid (HY.out.below hb (Nat.le_refl _))
    clear hb HX HT1
    go_wp2_with fail
    refine (HT2.out _ _ HY2.out).mono ?_
    rintro e W3 ⟨rfl, hb⟩
    have HA3 := Lib.hid (chain1 HA2.out hb)
    clear hb HT2
    go_wp2_with fail
    go_ret
    refine ⟨?_, HA3.out⟩
    simp [bapp, bapp1, bapp2]

theorem text_neg0 (v : Value) (N k : Nat) (w : World) (a1 b1 : Nat) (p1 : Option Addr) (hv : v = .agg #[.bool true, u a1, u b1, .pointer p1])
    (HP : Hid (∀ W, Below w.heap.size w W → Calls Tryz.prog 91 #[v] W (PartsPost W N 1))) (HT1 : Hid (∀ x W, IsNat W x N → Calls Tryz.prog 92 #[x] W (StrNew W (ntext N))))
    (HT2 : Hid (∀ x W, IsNat W x 1 → Calls Tryz.prog 92 #[x] W (StrNew W (ntext 1)))) (hl : (ntext N).length ≤ 21474836481) (hl2 : (ntext 1).length ≤ 21474836481) :
    Calls Tryz.prog 18 #[v] w (StrNew w (45 :: ntext N)) := by
  subst hv
  have l1 : ¬ 9223372036854775807 < 1 + (ntext N).length := by omega
  clear hl hl2
  generalize ntext N = TN at *
  go_enter Tryz.func18, Tryz.ntmps18
  go_wp2_with fail
  obtain ⟨W0, hW0, hb0, ⟨f0, f1, f2, f3⟩⟩ := box1 w (.bool true) (u a1) (u b1) (.pointer p1); rw [← hW0]; clear hW0
  refine (HP.out _ hb0).mono ?_
  rintro e W1 ⟨x, y, rfl, hx, hy, hb⟩
  (have hh := boxq (b := w.heap.size) hb f0 f1 f2 f3; clear f0 f1 f2 f3; obtain ⟨f0, f1, f2, f3⟩ := hh)
  obtain ⟨ya, yo, yc, rfl, hyc⟩ := hy.limb (by decide) (by decide)
  have HA := Lib.hid (chain1 hb0 hb)
  have HX := Lib.hid hx
  have HY := Lib.hid hy
  obtain ⟨xa, xl, xc, rfl, _⟩ := hx.form
  clear hb hb0 hx hy HP
  go_wp2_with fail
  refine (HT1.out _ _ HX.out).mono ?_
  rintro e W2 ⟨rfl, hb⟩
  (have hh := boxq (b := w.heap.size) hb f0 f1 f2 f3; clear f0 f1 f2 f3; obtain ⟨f0, f1, f2, f3⟩ := hh)
  have hyc2 : W2.cell? ⟨ya, yo, none⟩ = some (.int .u64 1) := (hb.cell (p := ⟨ya, yo, none⟩) (World.block_lt_of_cell? W1 _ hyc)).trans hyc
  have HA2 := Lib.hid (chain1 HA.out hb)
  have HY2 := Lib.hid (HY.out.below hb (Nat.le_refl _))
  clear hb HX HT1 hyc
  go_wp2_with fail
  go_ret
  refine ⟨?_, HA2.out⟩
  simp [bapp, bapp1, bapp2]

theorem text_neg1 (v : Value) (N k : Nat) (D : Nat) (hD0 : 0 < D) (hD1 : D ≠ 1) (w : World) (a1 b1 : Nat) (p1 : Option Addr) (hv : v = .agg #[.bool true, u a1, u b1, .pointer p1])
    (HP : Hid (∀ W, Below w.heap.size w W → Calls Tryz.prog 91 #[v] W (PartsPost W N D))) (HT1 : Hid (∀ x W, IsNat W x N → Calls Tryz.prog 92 #[x] W (StrNew W (ntext N))))
    (HT2 : Hid (∀ x W, IsNat W x D → Calls Tryz.prog 92 #[x] W (StrNew W (ntext D)))) (hl : (ntext N).length ≤ 21474836481) (hl2 : (ntext D).length ≤ 21474836481) :
    Calls Tryz.prog 18 #[v] w (StrNew w (45 :: (ntext N ++ 47 :: ntext D))) := by
  subst hv
  have l1 : ¬ 9223372036854775807 < 1 + (ntext N).length := by omega
  have l2 : ¬ 9223372036854775807 < 1 + (ntext N).length + 1 := by omega
  have l3 : ¬ 9223372036854775807 < 1 + (ntext N).length + 1 + (ntext D).length := by omega
  have l4 : ¬ 9223372036854775807 < (ntext N).length + 1 + 1 := by omega
  have l5 : ¬ 9223372036854775807 < (ntext N).length + 1 + 1 + (ntext D).length := by omega
  clear hl hl2
  generalize ntext N = TN at *
  generalize ntext D = TD at *
  go_enter Tryz.func18, Tryz.ntmps18
  go_wp2_with fail
  obtain ⟨W0, hW0, hb0, ⟨f0, f1, f2, f3⟩⟩ := box1 w (.bool true) (u a1) (u b1) (.pointer p1); rw [← hW0]; clear hW0
  refine (HP.out _ hb0).mono ?_
  rintro e W1 ⟨x, y, rfl, hx, hy, hb⟩
  (have hh := boxq (b := w.heap.size) hb f0 f1 f2 f3; clear f0 f1 f2 f3; obtain ⟨f0, f1, f2, f3⟩ := hh)
  rcases hy.not_one hD0 hD1 with ⟨ya, yo, yc, rfl, hyc⟩ | ⟨ao, yl, yc, rfl, hy1⟩
  · have HA := Lib.hid (chain1 hb0 hb)
    have HX := Lib.hid hx
    have HY := Lib.hid hy
    obtain ⟨xa, xl, xc, rfl, _⟩ := hx.form
    have hD : (((D : Nat) : Int) == 1) = false := by rw [beq_eq_false_iff_ne]; omega
    clear hb hb0 hx hy HP hD0 hD1
    go_wp2_with fail
    refine (HT1.out _ _ HX.out).mono ?_
    rintro e W2 ⟨rfl, hb⟩
    (have hh := boxq (b := w.heap.size) hb f0 f1 f2 f3; clear f0 f1 f2 f3; obtain ⟨f0, f1, f2, f3⟩ := hh)
    have hyc2 : W2.cell? ⟨ya, yo, none⟩ = some (u D) := (hb.cell (p := ⟨ya, yo, none⟩) (World.block_lt_of_cell? W1 _ hyc)).trans hyc
    have HA2 := Lib.hid (chain1 HA.out hb)
    have HY2 := Lib.hid (HY.out.below hb (Nat.le_refl _))
    clear hb HX HT1 hyc
    go_wp2_with fail
    refine (HT2.out _ _ HY2.out).mono ?_
    rintro e W3 ⟨rfl, hb⟩
    have HA3 := Lib.hid (chain1 HA2.out hb)
    clear hb HT2
    go_wp2_with fail
    go_ret
    refine ⟨?_, HA3.out⟩
    simp [bapp, bapp1, bapp2]
  · have HA := Lib.hid (chain1 hb0 hb)
    have HX := Lib.hid hx
    have HY := Lib.hid hy
    obtain ⟨xa, xl, xc, rfl, _⟩ := hx.form
    have hyl : (((yl : Nat) : Int) == 1) = false := by rw [beq_eq_false_iff_ne]; omega
    clear hb hb0 hx hy HP hD0 hD1 hy1
    go_wp2_with fail
    refine (HT1.out _ _ HX.out).mono ?_
    rintro e W2 ⟨rfl, hb⟩
    (have hh := boxq (b := w.heap.size) hb f0 f1 f2 f3; clear f0 f1 f2 f3; obtain ⟨f0, f1, f2, f3⟩ := hh)
    have HA2 := Lib.hid (chain1 HA.out hb)
    have HY2 := Lib.hid (HY.out.below hb (Nat.le_refl _))
    clear hb HX HT1
    go_wp2_with fail
    refine (HT2.out _ _ HY2.out).mono ?_
    rintro e W3 ⟨rfl, hb⟩
    have HA3 := Lib.hid (chain1 HA2.out hb)
    clear hb HT2
    go_wp2_with fail
    go_ret
    refine ⟨?_, HA3.out⟩
    simp [bapp, bapp1, bapp2]

theorem text_q (v : Value) (r : Rat) (k : Nat) (w : World) (h : IsQ w v r) (z : Siz r k) (hk : (k : Int) ≤ 1073741824) :
    Calls Tryz.prog 18 #[v] w (StrNew w (qtext r)) := by
  have HP := Lib.hid (fun W (hW : Below w.heap.size w W) => parts_any v (decide (r.num < 0)) r.num.natAbs r.den W (Num.below h hW (Nat.le_refl _)))
  have HT1 := Lib.hid (fun x W (hx : IsNat W x r.num.natAbs) => text_any x r.num.natAbs k W hx z.1 hk)
  have HT2 := Lib.hid (fun x W (hx : IsNat W x r.den) => text_any x r.den k W hx z.2 hk)
  have hq : qtext r = (if r.num < 0 then [45] else []) ++ ntext r.num.natAbs ++ (if r.den = 1 then [] else 47 :: ntext r.den) := rfl
  have hl1 := ntext_len z.1
  have hl2 := ntext_len z.2
  have hl1 : (ntext r.num.natAbs).length ≤ 21474836481 := by omega
  have hl2 : (ntext r.den).length ≤ 21474836481 := by omega
  obtain ⟨a1, b1, p1, hv, _⟩ := Num.form h
  have hd0 := r.den_pos
  by_cases hd : r.den = 1
  · by_cases hn : r.num < 0
    · rw [if_pos hd, if_pos hn, List.append_nil] at hq
      rw [hd] at HP HT2 hl2
      rw [hq]
      exact text_neg0 v _ k w a1 b1 p1 (by rw [hv, decide_eq_true hn]) HP HT1 HT2 hl1 hl2
    · rw [if_pos hd, if_neg hn, List.append_nil, List.nil_append] at hq
      rw [hd] at HP HT2 hl2
      rw [hq]
      exact text_pos0 v _ k w a1 b1 p1 (by rw [hv, decide_eq_false hn]) HP HT1 HT2 hl1 hl2
  · by_cases hn : r.num < 0
    · rw [if_neg hd, if_pos hn, List.append_assoc] at hq
      rw [hq]
      exact text_neg1 v _ k _ hd0 hd w a1 b1 p1 (by rw [hv, decide_eq_true hn]) HP HT1 HT2 hl1 hl2
    · rw [if_neg hd, if_neg hn, List.nil_append] at hq
      rw [hq]
      exact text_pos1 v _ k _ hd0 hd w a1 b1 p1 (by rw [hv, decide_eq_false hn]) HP HT1 HT2 hl1 hl2

end Go.Proofs.YtojploidgagmgaaGreatDoor

/- readNatural: decimal digits become a natural. -/
namespace Go.Proofs.YtojploidgagmgaaGreatDoor
open Go Go.RowKit Go.Proofs Lim

theorem parse_group (l : List UInt8) (acc k : Nat) (ha : acc < 10 ^ k) (hk : k + l.length ≤ 19) :
    Lib.parseUintM (2 ^ 64 - 1) acc l = if l.all isDig then .ok (l.foldl (fun a c => 10 * a + (c.toNat - 48)) acc) else Lib.parseUintB 64 [] := by
  induction l generalizing acc k with
  | nil => simp [Lib.parseUintM]
  | cons c l ih =>
    rw [Lib.parseUintM]
    simp only [List.length_cons] at hk
    by_cases hc : 48 ≤ c.toNat ∧ c.toNat ≤ 57
    · have hd : isDig c = true := by unfold isDig; simp [hc]
      have h1 : 10 ^ k ≤ 10 ^ 18 := Nat.pow_le_pow_right (by omega) (by omega)
      have h2 : acc * 10 + (c.toNat - 48) < 10 ^ (k + 1) := by rw [Nat.pow_succ]; omega
      have h3 : 10 ^ (k + 1) ≤ 10 ^ 19 := Nat.pow_le_pow_right (by omega) (by omega)
      rw [if_pos hc, if_neg (by omega), if_neg (by omega), ih _ (k + 1) h2 (by omega)]
      simp only [List.all_cons, hd, Bool.true_and, List.foldl_cons]
      rw [Nat.mul_comm acc 10]
    · have hd : isDig c = false := by unfold isDig; simp; omega
      rw [if_neg hc]
      simp only [List.all_cons, hd, Bool.false_and]
      rfl

theorem str_size_le (l : List UInt8) {a b : Nat} (h : l.length ≤ a) (hab : a ≤ b) : (⟨l.toArray⟩ : ByteArray).size ≤ b := by
  have : (⟨l.toArray⟩ : ByteArray).size = l.length := by simp [ByteArray.size]
  omega

theorem parse_ok (l : List UInt8) (h0 : l ≠ []) (h19 : l.length ≤ 19) (hd : l.all isDig = true) (w : World) :
    Calls Tryz.prog 123 #[str l, .int .i64 10, .int .i64 64] w (fun e w' => e = .returned (.tuple #[u (dval l), .nilIface]) ∧ Below w.heap.size w w') := by
  have h : Lib.parseUintB 64 (⟨l.toArray⟩ : ByteArray).data.toList = .ok (dval l) := by
    unfold Lib.parseUintB
    rw [if_neg (by simpa using h0), parse_group _ 0 0 (by decide) (by simpa using h19)]
    simp only [hd, if_true]
    rfl
  refine (Tryz.strconv_ParseUint_10_at64_ok ⟨l.toArray⟩ (str_size_le l h19 (by omega)) (dval l) h w).mono ?_
  rintro e w' ⟨rfl, hw⟩
  refine ⟨rfl, ?_⟩
  rcases hw with rfl | rfl
  · exact Below.refl _ _
  · exact Lib.bytesWorld_below _ _ _

theorem parse_bad (l : List UInt8) (h0 : l ≠ []) (h19 : l.length ≤ 19) (hd : l.all isDig = false) (w : World) (hG : Gr w) :
    Calls Tryz.prog 123 #[str l, .int .i64 10, .int .i64 64] w (fun e w' => ∃ t p, e = .returned (.tuple #[.int .u64 0, .iface t (.pointer (some p))]) ∧ Below w.heap.size w w') := by
  have h : Lib.parseUintB 64 (⟨l.toArray⟩ : ByteArray).data.toList = Lib.parseUintB 64 [] := by
    unfold Lib.parseUintB
    rw [if_neg (by simpa using h0), parse_group _ 0 0 (by decide) (by simpa using h19)]
    simp only [hd]
    rfl
  obtain ⟨tp, p, hs⟩ := hG.syn
  refine (Tryz.strconv_ParseUint_10_at64_syntax ⟨l.toArray⟩ (str_size_le l h19 (by omega)) h (.iface tp p) w hs (.inr ⟨tp, p, rfl⟩)).mono ?_
  rintro e w' ⟨N, rfl, _, _, hb⟩
  exact ⟨_, _, rfl, hb⟩

/-- The length of a string; a loop's measure. -/
def strLen : Value → Nat
  | .string s => s.size
  | _ => 0

/-- What readNatural leaves. -/
def ReadNatPost (w : World) (l : List UInt8) (e : Ending) (w' : World) : Prop :=
  (okNat l = true ∧ ∃ v, e = .returned (.tuple #[v, .bool true]) ∧ IsNat w' v (dval l) ∧ Below w.heap.size w w') ∨
  (okNat l = false ∧ e = .returned (.tuple #[.slice none 0 0, .bool false]) ∧ Below w.heap.size w w')

theorem extract_take (l : List UInt8) (n : Nat) : (⟨l.toArray⟩ : ByteArray).extract 0 n = ⟨(l.take n).toArray⟩ := by
  apply ByteArray.ext
  simp [ByteArray.data_extract]
theorem extract_drop (l : List UInt8) (n : Nat) : (⟨l.toArray⟩ : ByteArray).extract n l.length = ⟨(l.drop n).toArray⟩ := by
  apply ByteArray.ext
  simp [ByteArray.data_extract]
  rw [List.take_of_length_le (by simp)]

/-- What the loop of readNatural knows. -/
def ReadRel (w : World) (l : List UInt8) (s x : Value) (wr : World) : Prop :=
  ∃ pre rest, s = str rest ∧ l = pre ++ rest ∧ pre.all isDig = true ∧ IsNat wr x (dval pre) ∧ (pre = [] ∨ rest.length % 19 = 0) ∧ Below w.heap.size w wr

theorem readNatural_any (l : List UInt8) (w : World) (hl : l.length ≤ 100000) (hG : Gr w) : Calls Tryz.prog 84 #[str l] w (ReadNatPost w l) := by
  have HG := Lib.hid hG
  clear hG
  by_cases h0 : l = []
  · subst h0
    have hk : okNat [] = false := rfl
    go_enter Tryz.func84, Tryz.ntmps84
    go_wp2_with fail
    refine bodyPost_ret (v := .tuple #[.slice none 0 0, .bool false]) (by simp [results, Tryz.results84, go_sem]) rfl ?_
    exact .inr ⟨hk, rfl, Below.refl _ _⟩
  · have e0 : l.isEmpty = false := by cases l <;> simp_all
    have H0 := Lib.hid h0
    clear h0
    go_enter Tryz.func84, Tryz.ntmps84
    go_wp2_with fail
    go_loopw [0, 4] (fun s x wr => Hid (ReadRel w l s x wr)) (fun s _ _ => strLen s)
    case atStart => exact ⟨[], l, rfl, rfl, rfl, IsNat.zero w, .inl rfl, Below.refl _ _⟩
    case round =>
      obtain ⟨pre, rest, rfl, hpre, hd, hx, h19, hb⟩ := hrel.out
      clear hrel
      by_cases hr : rest = []
      · subst hr
        obtain ⟨xa, xl, xc, rfl, _⟩ := hx.form
        have hfin : okNat l = true ∧ IsNat wr (.slice xa xl xc) (dval l) := by
          rw [List.append_nil] at hpre
          subst hpre
          refine ⟨?_, hx⟩
          unfold okNat
          rw [hd, e0]
          rfl
        have HFin := Lib.hid hfin
        have HB := Lib.hid hb
        clear hfin hb hx h19 hpre hd
        go_wp2_with fail
        refine bodyPost_ret (v := .tuple #[.slice xa xl xc, .bool true]) (by simp [results, Tryz.results84, go_sem]) rfl ?_
        exact .inl ⟨HFin.out.1, _, rfl, HFin.out.2, HB.out⟩
      · have e1 : rest.isEmpty = false := by cases rest <;> simp_all
        have hm0 : 0 < rest.length := by cases rest <;> simp_all
        obtain ⟨q, hq⟩ : ∃ q, q = (rest.length - 1) % 19 := ⟨_, rfl⟩
        have hq19 : q < 19 := by omega
        have hqm : q + 1 ≤ rest.length := by have := Nat.mod_le (rest.length - 1) 19; omega
        have g1 : ((rest.length : Nat) : Int) - 1 = ((rest.length - 1 : Nat) : Int) := by omega
        have g2 : Int.tmod ((rest.length : Nat) - 1 : Int) 19 = (q : Int) := by rw [g1, Int.tmod_eq_emod_of_nonneg (by omega)]; omega
        have g3 : (((rest.length : Nat) : Int) - 1) % 19 = (q : Int) := by omega
        have hxt := extract_take rest (q + 1)
        have hxd := extract_drop rest (q + 1)
        have hl1 : (rest.length : Int) ≤ 100000 := by
          have := congrArg List.length hpre
          rw [List.length_append] at this
          omega
        have hqmi : (q : Int) + 1 ≤ (rest.length : Int) := by omega
        have HPre := Lib.hid hpre
        have HD := Lib.hid hd
        have HX := Lib.hid hx
        have H19 := Lib.hid h19
        have HB := Lib.hid hb
        have HQ := Lib.hid hq
        obtain ⟨xa, xl, xc, rfl, _⟩ := hx.form
        clear hpre hd hx h19 hb hq g1 hr
        go_wp2_with fail
        by_cases hg : (rest.take (q + 1)).all isDig = true
        · refine (parse_ok (rest.take (q + 1)) (by intro e; have := congrArg List.length e; rw [List.length_take, List.length_nil] at this; omega) (by rw [List.length_take]; omega) hg wr).mono ?_
          rintro e W1 ⟨rfl, hb1⟩
          have hval : dval (pre ++ rest.take (q + 1)) = dval pre * 10000000000000000000 + dval (rest.take (q + 1)) := by
            rw [dval_append]
            rcases H19.out with h | h
            · subst h; simp [dval]
            · have hq18 : q = 18 := by have := HQ.out; omega
              rw [List.length_take, hq18, Nat.min_eq_left (by omega)]
              rw [Nat.mul_comm]
          have hgl : dval (rest.take (q + 1)) < B := by
            have h1 := dval_lt (rest.take (q + 1)) (by simpa using hg)
            have h2 : 10 ^ (rest.take (q + 1)).length ≤ 10 ^ 19 := Nat.pow_le_pow_right (by omega) (by rw [List.length_take]; omega)
            exact Nat.lt_of_lt_of_le h1 (Nat.le_trans h2 (by decide))
          obtain ⟨K, hK1, hK2⟩ : ∃ K : Nat, 100000 ≤ K ∧ ((K + 1 : Nat) : Int) ≤ 1073741824 := ⟨100001, by omega, by omega⟩
          have hBK : B ≤ B ^ K := by
            have := Nat.pow_le_pow_right B_pos (show 1 ≤ K by omega)
            rwa [Nat.pow_one] at this
          have hpl : dval pre < B ^ K := by
            have h1 := dval_lt pre (by simpa using HD.out)
            have h2 : pre.length ≤ 100000 := by
              have := congrArg List.length HPre.out
              rw [List.length_append] at this
              omega
            exact Nat.lt_of_lt_of_le h1 (Nat.le_trans (Nat.pow_le_pow_left (by decide) _) (Nat.pow_le_pow_right B_pos (by omega)))
          have hnew : pre ++ rest.take (q + 1) ++ rest.drop (q + 1) = l := by rw [List.append_assoc, List.take_append_drop]; exact HPre.out.symm
          have hall : (pre ++ rest.take (q + 1)).all isDig = true := by rw [List.all_append, HD.out, hg]; rfl
          have hmod : (rest.drop (q + 1)).length % 19 = 0 := by rw [List.length_drop, HQ.out]; omega
          have hprod : dval pre * 10000000000000000000 < B ^ (K + 1) := by
            rw [Nat.pow_succ]
            exact Nat.mul_lt_mul'' hpl (by decide)
          have hgk : dval (rest.take (q + 1)) < B ^ (K + 1) := Nat.lt_of_lt_of_le hgl (by
            rw [Nat.pow_succ]
            exact Nat.le_mul_of_pos_left _ (Nat.pow_pos B_pos))
          have HW := Lib.hid (fun W => word_any (dval (rest.take (q + 1))) W hgl)
          have HT := Lib.hid (fun x y W (hx : IsNat W x (dval pre)) (hy : IsNat W y 10000000000000000000) => times_any x y (dval pre) 10000000000000000000 K W hx hy hpl (Nat.lt_of_lt_of_le (by decide) hBK) (by omega))
          have HP := Lib.hid (fun x y W (hx : IsNat W x (dval pre * 10000000000000000000)) (hy : IsNat W y (dval (rest.take (q + 1)))) => plus_any x y _ _ (K + 1) W hx hy hprod hgk hK2)
          have HVal := Lib.hid hval
          have HNew := Lib.hid hnew
          have HAll := Lib.hid hall
          have HMod := Lib.hid hmod
          have HX1 := Lib.hid (HX.out.below hb1 (Nat.le_refl _))
          have HB1 := Lib.hid (chain1 HB.out hb1)
          have hms : strLen (str (rest.drop (q + 1))) < strLen (str rest) := by
            simp [strLen, ByteArray.size]
            omega
          have HMs := Lib.hid hms
          clear hval hgl hpl hnew hall hmod hprod hgk hms hb1 hg HX HB hBK hK1 hK2
          generalize dval (rest.take (q + 1)) = gv at *
          generalize rest.drop (q + 1) = rest2 at *
          go_wp2_with fail
          have hone : IsNat (W1.alloc (.cells #[.int .u64 10000000000000000000] 23)) (.slice (some ⟨W1.heap.size, 0, none⟩) 1 1) 10000000000000000000 := one_new W1 10000000000000000000 (by decide) (by decide)
          have hb2 := below1 W1 (.cells #[.int .u64 10000000000000000000] 23)
          refine (HT.out _ _ _ (HX1.out.below hb2 (Nat.le_refl _)) hone).mono ?_
          rintro e W2 ⟨v2, rfl, hv2, hb3⟩
          have HV2 := Lib.hid hv2
          have HB2 := Lib.hid (chain1 (chain1 HB1.out hb2) hb3)
          obtain ⟨_, _, _, rfl, _⟩ := hv2.form
          clear hv2 hone hb2 hb3 HT HX1 HB1
          go_wp2_with fail
          refine (HW.out _).mono ?_
          rintro e W3 ⟨v3, rfl, hv3, hb3⟩
          have HV3 := Lib.hid hv3
          have HV2 := Lib.hid (HV2.out.below hb3 (Nat.le_refl _))
          have HB3 := Lib.hid (chain1 HB2.out hb3)
          obtain ⟨_, _, _, rfl, _⟩ := hv3.form
          clear hv3 hb3 HW HB2
          go_wp2_with fail
          refine (HP.out _ _ _ HV2.out HV3.out).mono ?_
          rintro e W4 ⟨v4, rfl, hv4, hb4⟩
          rw [← HVal.out] at hv4
          have HV4 := Lib.hid hv4
          have HB4 := Lib.hid (chain1 HB3.out hb4)
          obtain ⟨_, _, _, rfl, _⟩ := hv4.form
          clear hv4 hb4 HP HV2 HV3 HB3
          go_wp2_with fail
          go_roundw
          case rel => exact ⟨pre ++ rest.take (q + 1), rest2, rfl, HNew.out.symm, HAll.out, HV4.out, .inr HMod.out, HB4.out⟩
          case measure => exact HMs.out
        · have hg : (rest.take (q + 1)).all isDig = false := by simpa using hg
          refine (parse_bad (rest.take (q + 1)) (by intro e; have := congrArg List.length e; rw [List.length_take, List.length_nil] at this; omega) (by rw [List.length_take]; omega) hg wr (HG.out.below HB.out HG.out.size)).mono ?_
          rintro e W1 ⟨t, p, rfl, hb1⟩
          have hfin : okNat l = false := by
            rw [HPre.out]
            unfold okNat
            rw [← List.take_append_drop (q + 1) rest, List.all_append, List.all_append, hg]
            simp
          have HFin := Lib.hid hfin
          have HB1 := Lib.hid (chain1 HB.out hb1)
          clear hfin hb1 hg hxt hxd
          go_wp2_with fail
          refine bodyPost_ret (v := .tuple #[.slice none 0 0, .bool false]) (by simp [results, Tryz.results84, go_sem]) rfl ?_
          exact .inr ⟨HFin.out, rfl, HB1.out⟩

end Go.Proofs.YtojploidgagmgaaGreatDoor

namespace Go.Proofs.YtojploidgagmgaaGreatDoor.Lim

theorem natAbs_div_le (n : Int) (g : Nat) : (n / (g : Int)).natAbs ≤ n.natAbs := by
  rcases Nat.eq_zero_or_pos g with h | h
  · subst h; simp
  · rcases (Decidable.em (n < 0)) with hn | hn
    · have h1 := Int.mul_ediv_add_emod n g
      have h2 := Int.emod_nonneg n (b := (g : Int)) (by omega)
      have h3 := Int.emod_lt_of_pos n (b := (g : Int)) (by omega)
      have h4 : n ≤ n / (g : Int) := by
        have : n * (g : Int) ≤ n * 1 := Int.mul_le_mul_of_nonpos_left (by omega) (by omega)
        rw [Int.mul_one] at this
        exact (Int.le_ediv_iff_mul_le (by omega)).2 this
      have h5 : n / (g : Int) < 0 := Int.ediv_neg_of_neg_of_pos hn (by omega)
      omega
    · have h1 : 0 ≤ n / (g : Int) := Int.ediv_nonneg (by omega) (by omega)
      have h2 : n / (g : Int) ≤ n := Int.ediv_le_self _ (by omega)
      omega

theorem mkRat_size (n : Int) (d : Nat) (hd : d ≠ 0) : (mkRat n d).num.natAbs ≤ n.natAbs ∧ (mkRat n d).den ≤ d := by
  rw [Rat.num_mkRat, Rat.den_mkRat, if_neg hd, if_neg hd]
  exact ⟨natAbs_div_le _ _, Nat.div_le_self _ _⟩

theorem mul_size (r s : Rat) : (r * s).num.natAbs ≤ r.num.natAbs * s.num.natAbs ∧ (r * s).den ≤ r.den * s.den := by
  rw [Rat.mul_def']
  have := mkRat_size (r.num * s.num) (r.den * s.den) (Nat.mul_ne_zero r.den_nz s.den_nz)
  rwa [Int.natAbs_mul] at this

theorem add_size (r s : Rat) : (r + s).num.natAbs ≤ r.num.natAbs * s.den + s.num.natAbs * r.den ∧ (r + s).den ≤ r.den * s.den := by
  rw [Rat.add_def']
  have := mkRat_size (r.num * s.den + s.num * r.den) (r.den * s.den) (Nat.mul_ne_zero r.den_nz s.den_nz)
  refine ⟨Nat.le_trans this.1 ?_, this.2⟩
  refine Nat.le_trans (Int.natAbs_add_le _ _) ?_
  rw [Int.natAbs_mul, Int.natAbs_mul]
  simp

theorem signed_num' (neg : Bool) (n : Nat) : (if neg then -(n : Rat) else (n : Rat)).num = (if neg then -(n : Int) else (n : Int)) ∧ (if neg then -(n : Rat) else (n : Rat)).den = 1 := by
  cases neg
  · exact ⟨rfl, rfl⟩
  · exact ⟨rfl, rfl⟩
end Go.Proofs.YtojploidgagmgaaGreatDoor.Lim

/- How great sums and products are. -/
namespace Go.Proofs.YtojploidgagmgaaGreatDoor
open Go Go.RowKit Go.Proofs Lim

theorem Siz.mul {r s : Rat} {k j : Nat} (h1 : Siz r k) (h2 : Siz s j) : Siz (r * s) (k + j) := by
  obtain ⟨a, b⟩ := mul_size r s
  exact ⟨Nat.lt_of_le_of_lt a (mul_lt_pow h1.1 h2.1), Nat.lt_of_le_of_lt b (mul_lt_pow h1.2 h2.2)⟩

theorem Siz.add {r s : Rat} {k j : Nat} (h1 : Siz r k) (h2 : Siz s j) : Siz (r + s) (k + j + 1) := by
  obtain ⟨a, b⟩ := add_size r s
  have e1 := mul_lt_pow h1.1 h2.2
  have e2 := mul_lt_pow h2.1 h1.2
  rw [Nat.add_comm j k] at e2
  have e3 := mul_lt_pow h1.2 h2.2
  have h : B ^ (k + j) * 2 ≤ B ^ (k + j + 1) := by rw [Nat.pow_succ]; exact Nat.mul_le_mul_left _ two_le_B
  refine ⟨?_, ?_⟩
  · refine Nat.lt_of_le_of_lt a ?_
    omega
  · refine Nat.lt_of_le_of_lt b ?_
    omega

theorem Siz.sub {r s : Rat} {k j : Nat} (h1 : Siz r k) (h2 : Siz s j) : Siz (r - s) (k + j + 1) := by
  rw [Rat.sub_eq_add_neg]
  exact h1.add h2.neg

theorem Siz.zero (k : Nat) (h : 1 ≤ k) : Siz 0 k := by
  have : 1 < B ^ k := Nat.lt_of_lt_of_le (show 1 < B ^ 1 by decide) (Nat.pow_le_pow_right B_pos h)
  exact ⟨by simp; omega, by simp; omega⟩

theorem Siz.div {r s : Rat} {k j : Nat} (h1 : Siz r k) (h2 : Siz s j) (h0 : s.num ≠ 0) : Siz (r / s) (k + j) := by
  rw [Rat.div_def]
  exact h1.mul (h2.inv h0)

/-- The numbers of texts are not too great. -/
theorem pow_ten_lt {L k : Nat} (h : L ≤ 19 * k) : 10 ^ L ≤ B ^ k := by
  refine Nat.le_trans (Nat.pow_le_pow_right (by omega) h) ?_
  rw [Nat.pow_mul]
  exact Nat.pow_le_pow_left (by decide) k

theorem Siz.read (s : List UInt8) {L k : Nat} (h : s.length ≤ L) (h1 : 1 ≤ L) (hk : L ≤ 19 * k) : Siz (readQ s).1 k := by
  obtain ⟨a, b⟩ := readQ_size s h h1
  exact ⟨Nat.lt_of_lt_of_le a (pow_ten_lt hk), Nat.lt_of_lt_of_le b (pow_ten_lt hk)⟩

end Go.Proofs.YtojploidgagmgaaGreatDoor

/- Read: the number whose text it is, or the error. -/
namespace Go.Proofs.YtojploidgagmgaaGreatDoor
open Go Go.RowKit Go.Proofs Lim

theorem index_slash (s : List UInt8) : Lib.index s [47] = if (s.dropWhile (· != 47)).isEmpty then -1 else ((s.takeWhile (· != 47)).length : Int) := by
  induction s with
  | nil => rfl
  | cons c s ih =>
    rw [Lib.index]
    by_cases hc : c = 47
    · subst hc; simp
    · have h1 : (c != 47) = true := by simpa using hc
      have h2 : ([47] : List UInt8).isPrefixOf (c :: s) = false := by
        simp [List.isPrefixOf]
        exact fun e => hc e.symm
      rw [h2, List.dropWhile_cons, List.takeWhile_cons, h1, ih]
      simp only [if_true, List.length_cons]
      by_cases he : (s.dropWhile (· != 47)).isEmpty = true
      · simp [he]
      · simp only [he]
        have : (((s.takeWhile (· != 47)).length : Int) == -1) = false := by rw [beq_eq_false_iff_ne]; omega
        simp [this]

theorem cut_slash (s : List UInt8) : Lib.cut s [47] = (s.takeWhile (· != 47), (s.dropWhile (· != 47)).tail, !(s.dropWhile (· != 47)).isEmpty) := by
  unfold Lib.cut
  rw [index_slash]
  have hs := (List.takeWhile_append_dropWhile (p := (· != (47 : UInt8))) (l := s)).symm
  by_cases he : (s.dropWhile (· != 47)).isEmpty = true
  · have h0 : s.dropWhile (· != 47) = [] := by simpa using he
    rw [if_pos he, if_neg (by decide), h0]
    rw [h0, List.append_nil] at hs
    rw [← hs]
    rfl
  · rw [if_neg he, if_pos (by omega)]
    generalize s.dropWhile (· != 47) = d at *
    generalize s.takeWhile (· != 47) = t at *
    subst hs
    have h1 : (!d.isEmpty) = true := by simpa using he
    rw [h1, Int.toNat_natCast]
    refine Prod.ext ?_ (Prod.ext ?_ rfl)
    · simp
    · simp only [List.length_singleton]
      rw [← List.drop_drop, List.drop_left, List.drop_one]

theorem prefix_minus (s : List UInt8) : Lib.hasPrefix s [45] = minusOf s ∧ Lib.trimPrefix s [45] = restOf s := by
  have h1 : Lib.hasPrefix s [45] = minusOf s := by
    unfold Lib.hasPrefix minusOf
    cases s with
    | nil => rfl
    | cons c s => simp [List.isPrefixOf]; rw [Bool.eq_iff_iff]; simp; exact eq_comm
  refine ⟨h1, ?_⟩
  unfold Lib.trimPrefix restOf
  rw [h1]
  cases s with
  | nil => simp
  | cons c s => simp

theorem cutPrefix_minus (l : List UInt8) (w : World) :
    Calls Tryz.prog 82 #[str l, .string ⟨#[45]⟩] w (fun e w' => e = .returned (.tuple #[str (restOf l), .bool (minusOf l)]) ∧ w = w') := by
  refine (Tryz.strings_CutPrefix ⟨l.toArray⟩ ⟨#[45]⟩ w).mono ?_
  rintro e w' ⟨rfl, rfl⟩
  refine ⟨?_, rfl⟩
  have := prefix_minus l
  show Ending.returned (.tuple #[.string ⟨(Lib.trimPrefix l [45]).toArray⟩, .bool (Lib.hasPrefix l [45])]) = _
  rw [this.1, this.2]

theorem cut_call (l : List UInt8) (hl : l.length ≤ 100000) (w : World) (hG : Gr w) :
    Calls Tryz.prog 83 #[str l, .string ⟨#[47]⟩] w (fun e w' => e = .returned (.tuple #[str (l.takeWhile (· != 47)), str (l.dropWhile (· != 47)).tail, .bool (!(l.dropWhile (· != 47)).isEmpty)]) ∧ ∃ n, w' = w.drewN n) := by
  obtain ⟨m, hm⟩ := hG.maxLen
  refine (Tryz.strings_Cut ⟨l.toArray⟩ ⟨#[47]⟩ m w (by have := str_size_le l hl (show 100000 ≤ 4294967280 by omega); omega) hm).mono ?_
  rintro e w' ⟨rfl, hw⟩
  refine ⟨?_, hw⟩
  have := cut_slash l
  show Ending.returned (.tuple #[.string ⟨(Lib.cut l [47]).1.toArray⟩, .string ⟨(Lib.cut l [47]).2.1.toArray⟩, .bool (Lib.cut l [47]).2.2]) = _
  rw [this]

/-- What Read leaves. -/
def ReadPost (w : World) (l : List UInt8) (e : Ending) (w' : World) : Prop :=
  ∃ v, e = .returned (.tuple #[v, .int .i64 (readQ l).2]) ∧ IsQ w' v (readQ l).1 ∧ Below w.heap.size w w'

/-- The error leaves 0. -/
theorem ReadPost.err {w w' : World} {l : List UInt8} {k : Int} (hk : readQ l = (0, k)) (hb : Below w.heap.size w w') : ReadPost w l (.returned (.tuple #[lo false 0 0, .int .i64 k])) w' := by
  refine ⟨lo false 0 0, by rw [hk], ?_, hb⟩
  rw [hk]
  exact Num.low 0 rfl rfl B_pos (show 1 < B by decide)

theorem readQ_none {l : List UInt8} (hl : ¬ 4000 < l.length) (h : parsed l = none) : readQ l = (0, 4) := by unfold readQ; rw [if_neg hl, h]
theorem readQ_some {l : List UInt8} {r : Rat} (hl : ¬ 4000 < l.length) (h : parsed l = some r) : readQ l = if qtext r = l then (r, 0) else (0, 4) := by unfold readQ; rw [if_neg hl, h]

theorem restOf_len (l : List UInt8) : (restOf l).length ≤ l.length := by unfold restOf; split <;> simp
theorem aboveOf_len (l : List UInt8) : (aboveOf l).length ≤ l.length := by
  have h := congrArg List.length (List.takeWhile_append_dropWhile (p := (· != (47 : UInt8))) (l := restOf l))
  rw [List.length_append] at h
  have := restOf_len l
  unfold aboveOf
  omega
theorem belowOf_len (l : List UInt8) : (belowOf l).length ≤ l.length + 1 := by
  unfold belowOf
  have h1 := restOf_len l
  have h := congrArg List.length (List.takeWhile_append_dropWhile (p := (· != (47 : UInt8))) (l := restOf l))
  rw [List.length_append] at h
  split
  · simp
  · rw [List.length_tail]; omega

theorem okNat_dig {l : List UInt8} (h : okNat l = true) : ∀ c ∈ l, isDig c = true := by
  unfold okNat at h
  rw [Bool.and_eq_true, List.all_eq_true] at h
  exact h.2

theorem dval_siz {l : List UInt8} {k : Nat} (h : okNat l = true) (hl : l.length ≤ 19 * k) : dval l < B ^ k :=
  Nat.lt_of_lt_of_le (dval_lt l (okNat_dig h)) (pow_ten_lt hl)

theorem one_lt_pow {k : Nat} (hk : 1 ≤ k) : 1 < B ^ k := Nat.lt_of_lt_of_le (show 1 < B ^ 1 by decide) (Nat.pow_le_pow_right B_pos hk)

theorem signed_siz {n k : Nat} (neg : Bool) (h : n < B ^ k) (hk : 1 ≤ k) : Siz (signed neg n) k := by
  have h4 := signed_num' neg n
  have h1 := one_lt_pow hk
  unfold Siz signed
  rw [h4.1, h4.2]
  refine ⟨?_, h1⟩
  cases neg
  · simpa using h
  · simpa using h

theorem nat_siz {n k : Nat} (h : n < B ^ k) (hk : 1 ≤ k) : Siz ((n : Nat) : Rat) k := by
  refine ⟨?_, one_lt_pow hk⟩
  show ((n : Nat) : Int).natAbs < B ^ k
  simpa using h

theorem read_any (l : List UInt8) (w : World) (hl : l.length ≤ 100000) (hG : Gr w) : Calls Tryz.prog 15 #[str l] w (ReadPost w l) := by
  by_cases h4 : 4000 < l.length
  · have hr : readQ l = (0, 5) := by unfold readQ; rw [if_pos h4]
    have HR := Lib.hid hr
    have hi : (4000 : Int) < (l.length : Int) := by omega
    clear hr h4 hG
    go_enter Tryz.func15, Tryz.ntmps15
    go_wp2_with fail
    refine bodyPost_ret (v := .tuple #[lo false 0 0, .int .i64 5]) (by simp [results, Tryz.results15, go_sem]) rfl ?_
    exact ReadPost.err HR.out (below1 w _)
  · have hi : ¬ (4000 : Int) < (l.length : Int) := by omega
    have HG := Lib.hid hG
    have H4 := Lib.hid h4
    have HNA := Lib.hid (fun W (hW : Below w.heap.size w W) => readNatural_any (aboveOf l) W (by have := aboveOf_len l; omega) (hG.below hW hG.size))
    have HNB := Lib.hid (fun W (hW : Below w.heap.size w W) => readNatural_any (belowOf l) W (by have := belowOf_len l; omega) (hG.below hW hG.size))
    have HCut := Lib.hid (fun W (hW : Below w.heap.size w W) => cut_call (restOf l) (by have := restOf_len l; omega) W (hG.below hW hG.size))
    clear hG h4
    go_enter Tryz.func15, Tryz.ntmps15
    go_wp2_with fail
    refine (cutPrefix_minus l _).mono ?_
    rintro e w1 ⟨rfl, rfl⟩
    go_wp2_with fail
    obtain ⟨W0, hW0, hb0, hz, hs⟩ := boxz w; rw [← hW0]; clear hW0; have HZ := Lib.hid hz; have HW0 := Lib.hid hb0; have hb0 := Below.refl W0.heap.size W0; clear hz
    clear hs
    refine (HCut.out _ HW0.out).mono ?_
    rintro e W2 ⟨rfl, q, rfl⟩
    have HA2 : Hid (Below W0.heap.size W0 (W0.drewN q)) := bdrewN hb0
    clear hb0
    generalize W0.drewN q = W2 at *
    by_cases hs : ((restOf l).dropWhile (· != 47)).isEmpty = true
-- TAIL
    · have hbe : belowOf l = [49] := by unfold belowOf; rw [if_pos hs]
      have HNB := Lib.hid (fun W hW => show Calls Tryz.prog 84 #[.string ⟨#[49]⟩] W (ReadNatPost W (belowOf l)) from (by
        have := HNB.out W hW
        rw [show str (belowOf l) = .string ⟨#[49]⟩ from by rw [hbe]] at this
        exact this))
      rw [hs]
      show _
      rw [show (restOf l).takeWhile (· != 47) = aboveOf l from rfl]
      clear hs hbe
      go_wp2_with fail
      refine (HNA.out _ (chain1 HW0.out HA2.out)).mono ?_
      rintro e W3 (⟨hok1, va, rfl, hva, hb⟩ | ⟨hok1, rfl, hb⟩)
      · have HVA := Lib.hid hva
        have HO1 := Lib.hid hok1
        have HA3 := Lib.hid (chain1 HA2.out hb)
        obtain ⟨aa, al, ac, rfl, _⟩ := hva.form
        clear hva hok1 hb HNA HA2
        go_wp2_with fail
        refine (HNB.out _ (chain1 HW0.out HA3.out)).mono ?_
        rintro e W4 (⟨hok2, vb, rfl, hvb, hb⟩ | ⟨hok2, rfl, hb⟩)
        · obtain ⟨ba, bl, bc, rfl, _, hbz, _⟩ := hvb.form
          have HVB := Lib.hid hvb
          have HVA := Lib.hid (HVA.out.below hb (Nat.le_refl _))
          have HO2 := Lib.hid hok2
          have HA4 := Lib.hid (chain1 HA3.out hb)
          by_cases hd0 : dval (belowOf l) = 0
          · have hbl : bl = 0 := hbz.2 hd0
            have HD0 := Lib.hid hd0
            subst hbl
            clear hvb hok2 hb HNB HA3 hbz hd0
            have hfin := ReadPost.err (readQ_none H4.out (by unfold parsed; rw [HO1.out, HO2.out, HD0.out]; rfl)) (store4 HW0.out HA4.out (Nat.le_refl _) (.bool false) (.int .u64 0) (.int .u64 0) (.pointer none))
            have HFin := Lib.hid hfin
            (have hz := HZ.out.below HA4.out (Nat.le_refl _); have zf := hz.frozen; obtain ⟨z0, z1, z2, z3⟩ := hz.cells; have zf0 := zf 0; have zf1 := zf 1; have zf2 := zf 2; have zf3 := zf 3; clear zf hz)
            clear hfin
            go_wp2_with fail
            refine bodyPost_ret (v := .tuple #[lo false 0 0, .int .i64 4]) (by simp [results, Tryz.results15, go_sem, z0, z1, z2, z3]) rfl ?_
            exact HFin.out
          · have hbl : (((bl : Nat) : Int) == 0) = false := by rw [beq_eq_false_iff_ne]; intro e; exact hd0 (hbz.1 (by omega))
            have hpar : parsed l = some (signed (minusOf l) (dval (aboveOf l)) * ((dval (belowOf l) : Nat) : Rat)⁻¹) := by
              unfold parsed
              rw [HO1.out, HO2.out, Bool.true_and, Bool.true_and, if_pos (by simpa using hd0)]
            have HPar := Lib.hid (readQ_some H4.out hpar)
            have HWn := Lib.hid (fun v W (hv : IsNat W v (dval (aboveOf l))) => (whole_any (minusOf l) v _ W hv).mono fun e W' h => h.q (r := signed (minusOf l) (dval (aboveOf l))) (signed_num' _ _).1 (signed_num' _ _).2)
            have HWd := Lib.hid (fun v W (hv : IsNat W v (dval (belowOf l))) => (whole_any false v _ W hv).mono fun e W' h => h.q (r := ((dval (belowOf l) : Nat) : Rat)) rfl rfl)
            have hdn : (((dval (belowOf l) : Nat) : Rat)).num ≠ 0 := by
              show ((dval (belowOf l) : Nat) : Int) ≠ 0
              omega
            have HRc := Lib.hid (fun v W (hv : IsQ W v ((dval (belowOf l) : Nat) : Rat)) => recip_q v _ W hv hdn)
            obtain ⟨K, hK1, hK2, hK3⟩ : ∃ K : Nat, 4001 ≤ 19 * K ∧ (K : Int) ≤ 1073741824 ∧ ((K + K : Nat) : Int) ≤ 1073741824 := ⟨300, by omega, by omega, by omega⟩
            have hz1 := signed_siz (k := K) (minusOf l) (dval_siz HO1.out (by have := aboveOf_len l; omega)) (by omega)
            have hz2 := nat_siz (k := K) (dval_siz HO2.out (by have := belowOf_len l; omega)) (by omega)
            have hz3 := hz2.inv hdn
            have HTm := Lib.hid (fun v1 v2 W h1 h2 hG => timesWide_q v1 v2 (signed (minusOf l) (dval (aboveOf l))) ((dval (belowOf l) : Nat) : Rat)⁻¹ K W h1 h2 hz1 hz3 hK2 hG)
            have HTx := Lib.hid (fun v W h => text_q v (signed (minusOf l) (dval (aboveOf l)) * ((dval (belowOf l) : Nat) : Rat)⁻¹) (K + K) W h (hz1.mul hz3) hK3)
            clear hz1 hz2 hz3 hK1 hK2 hK3 hdn hpar hvb hok2 hb HNB HA3 hbz hd0
            generalize signed (minusOf l) (dval (aboveOf l)) = qn at *
            generalize hdv : ((dval (belowOf l) : Nat) : Rat) = qd at *
            go_wp2_with fail
            refine (HWn.out _ _ HVA.out).mono ?_
            rintro e W5 ⟨v1, rfl, hv1, hb⟩
            have HV1 := Lib.hid hv1
            have HVB := Lib.hid (HVB.out.below hb (Nat.le_refl _))
            have HA5 := Lib.hid (chain1 HA4.out hb)
            obtain ⟨_, _, _, _, rfl⟩ := hv1.form
            clear hv1 hb HWn HA4 HVA hdv
            go_wp2_with fail
            refine (HWd.out _ _ HVB.out).mono ?_
            rintro e W6 ⟨v2, rfl, hv2, hb⟩
            have HV1 := Lib.hid (HV1.out.below hb (Nat.le_refl _))
            have HV2 := Lib.hid hv2
            have HA6 := Lib.hid (chain1 HA5.out hb)
            obtain ⟨_, _, _, _, rfl⟩ := hv2.form
            clear hv2 hb HWd HA5 HVB
            go_wp2_with fail
            refine (HRc.out _ _ HV2.out).mono ?_
            rintro e W7 ⟨v3, rfl, hv3, hb⟩
            have HV1 := Lib.hid (HV1.out.below hb (Nat.le_refl _))
            have HV3 := Lib.hid hv3
            have HA7 := Lib.hid (chain1 HA6.out hb)
            obtain ⟨_, _, _, _, rfl⟩ := hv3.form
            clear hv3 hb HRc HA6 HV2
            go_wp2_with fail
            refine (HTm.out _ _ _ HV1.out HV3.out (HG.out.below (chain1 HW0.out HA7.out) HG.out.size)).mono ?_
            rintro e W8 ⟨v4, rfl, hv4, hb⟩
            have HV4 := Lib.hid hv4
            have HA8 := Lib.hid (chain1 HA7.out hb)
            obtain ⟨sx, ax, bx, px, rfl⟩ := hv4.form
            clear hv4 hb HTm HA7 HV1 HV3
            have hlt : w.heap.size < W8.heap.size := World.block_lt_of_cell? W8 ⟨w.heap.size, 0, none⟩ (HZ.out.below HA8.out (Nat.le_refl _)).cells.1
            go_wp2_with fail
            obtain ⟨W9, hW, hb, ⟨g0, g1, g2, g3⟩⟩ := box1 W8 (.bool sx) (u ax) (u bx) (.pointer px); rw [← hW]; clear hW
            have HV4 := Lib.hid (HV4.out.below hb (Nat.le_refl _))
            have HA9 := Lib.hid (chain1 HA8.out hb)
            have m1 : ¬ w.heap.size = W8.heap.size := by omega
            have m2 : ¬ W8.heap.size = w.heap.size := by omega
            clear hb HA8 hlt
            generalize W8.heap.size = bx1 at *
            refine (HTx.out _ _ HV4.out).mono ?_
            rintro e W10 ⟨rfl, hb⟩
            (have hh := boxq (b := bx1) hb g0 g1 g2 g3; clear g0 g1 g2 g3; obtain ⟨g0, g1, g2, g3⟩ := hh)
            have HV4 := Lib.hid (HV4.out.below hb (Nat.le_refl _))
            have HAx := Lib.hid (chain1 HA9.out hb)
            clear hb HA9 HTx
            by_cases hq : qtext (qn * qd⁻¹) = l
            · rw [hq]
              have hp := HPar.out
              rw [if_pos hq] at hp
              have hz := HZ.out.below HAx.out (Nat.le_refl _)
              have hfin := QNew.stored (a0 := .bool sx) (a1 := u ax) (a2 := u bx) (a3 := .pointer px) hz HV4.out (chain1 HW0.out HAx.out) (Nat.le_refl _)
              have HFin := Lib.hid hfin
              have HPv := Lib.hid hp
              (have hz := HZ.out.below HAx.out (Nat.le_refl _); have zf := hz.frozen; obtain ⟨z0, z1, z2, z3⟩ := hz.cells; have zf0 := zf 0; have zf1 := zf 1; have zf2 := zf 2; have zf3 := zf 3; clear zf hz)
              clear hfin hz hq hp HPar
              go_wp2_with fail
              refine bodyPost_ret (v := .tuple #[.agg #[.bool sx, u ax, u bx, .pointer px], .int .i64 0]) (by simp [results, Tryz.results15, go_sem, z0, z1, z2, z3]) rfl ?_
              obtain ⟨v, hv, hqq, hbb⟩ := HFin.out
              injection hv with hv
              subst hv
              refine ⟨_, by rw [HPv.out], ?_, hbb⟩
              rw [HPv.out]
              exact hqq
            · have hp := HPar.out
              rw [if_neg hq] at hp
              have hfin := ReadPost.err hp (store4 HW0.out HAx.out (Nat.le_refl _) (.bool false) (.int .u64 0) (.int .u64 0) (.pointer none))
              have HFin := Lib.hid hfin
              (have hz := HZ.out.below HAx.out (Nat.le_refl _); have zf := hz.frozen; obtain ⟨z0, z1, z2, z3⟩ := hz.cells; have zf0 := zf 0; have zf1 := zf 1; have zf2 := zf 2; have zf3 := zf 3; clear zf hz)
              clear hfin hp HPar HV4
              generalize qtext (qn * qd⁻¹) = tq at *
              have hqb : (tq == l) = false := by simpa using hq
              clear hq
              go_wp2_with fail
              refine bodyPost_ret (v := .tuple #[lo false 0 0, .int .i64 4]) (by simp [results, Tryz.results15, go_sem, z0, z1, z2, z3]) rfl ?_
              exact HFin.out
        · have HO2 := Lib.hid hok2
          have HA4 := Lib.hid (chain1 HA3.out hb)
          clear hok2 hb HNB HA3 HVA
          have hfin := ReadPost.err (readQ_none H4.out (by unfold parsed; rw [HO2.out, Bool.and_false, Bool.false_and]; rfl)) (store4 HW0.out HA4.out (Nat.le_refl _) (.bool false) (.int .u64 0) (.int .u64 0) (.pointer none))
          have HFin := Lib.hid hfin
          (have hz := HZ.out.below HA4.out (Nat.le_refl _); have zf := hz.frozen; obtain ⟨z0, z1, z2, z3⟩ := hz.cells; have zf0 := zf 0; have zf1 := zf 1; have zf2 := zf 2; have zf3 := zf 3; clear zf hz)
          clear hfin
          go_wp2_with fail
          refine bodyPost_ret (v := .tuple #[lo false 0 0, .int .i64 4]) (by simp [results, Tryz.results15, go_sem, z0, z1, z2, z3]) rfl ?_
          exact HFin.out
      · have HO1 := Lib.hid hok1
        have HA3 := Lib.hid (chain1 HA2.out hb)
        clear hok1 hb HNA HA2
        go_wp2_with fail
        refine (HNB.out _ (chain1 HW0.out HA3.out)).mono ?_
        rintro e W4 (⟨hok2, vb, rfl, hvb, hb⟩ | ⟨hok2, rfl, hb⟩)
        · obtain ⟨ba, bl, bc, rfl, _⟩ := hvb.form
          have HA4 := Lib.hid (chain1 HA3.out hb)
          clear hvb hok2 hb HNB HA3
          have hfin := ReadPost.err (readQ_none H4.out (by unfold parsed; rw [HO1.out, Bool.false_and, Bool.false_and]; rfl)) (store4 HW0.out HA4.out (Nat.le_refl _) (.bool false) (.int .u64 0) (.int .u64 0) (.pointer none))
          have HFin := Lib.hid hfin
          (have hz := HZ.out.below HA4.out (Nat.le_refl _); have zf := hz.frozen; obtain ⟨z0, z1, z2, z3⟩ := hz.cells; have zf0 := zf 0; have zf1 := zf 1; have zf2 := zf 2; have zf3 := zf 3; clear zf hz)
          clear hfin
          go_wp2_with fail
          refine bodyPost_ret (v := .tuple #[lo false 0 0, .int .i64 4]) (by simp [results, Tryz.results15, go_sem, z0, z1, z2, z3]) rfl ?_
          exact HFin.out
        · have HA4 := Lib.hid (chain1 HA3.out hb)
          clear hok2 hb HNB HA3
          have hfin := ReadPost.err (readQ_none H4.out (by unfold parsed; rw [HO1.out, Bool.false_and, Bool.false_and]; rfl)) (store4 HW0.out HA4.out (Nat.le_refl _) (.bool false) (.int .u64 0) (.int .u64 0) (.pointer none))
          have HFin := Lib.hid hfin
          (have hz := HZ.out.below HA4.out (Nat.le_refl _); have zf := hz.frozen; obtain ⟨z0, z1, z2, z3⟩ := hz.cells; have zf0 := zf 0; have zf1 := zf 1; have zf2 := zf 2; have zf3 := zf 3; clear zf hz)
          clear hfin
          go_wp2_with fail
          refine bodyPost_ret (v := .tuple #[lo false 0 0, .int .i64 4]) (by simp [results, Tryz.results15, go_sem, z0, z1, z2, z3]) rfl ?_
          exact HFin.out
    · have hs : ((restOf l).dropWhile (· != 47)).isEmpty = false := by simpa using hs
      have hbe : ((restOf l).dropWhile (· != 47)).tail = belowOf l := by unfold belowOf; rw [hs]; rfl
      rw [hs, hbe, show (restOf l).takeWhile (· != 47) = aboveOf l from rfl]
      clear hs hbe
      go_wp2_with fail
      refine (HNA.out _ (chain1 HW0.out HA2.out)).mono ?_
      rintro e W3 (⟨hok1, va, rfl, hva, hb⟩ | ⟨hok1, rfl, hb⟩)
      · have HVA := Lib.hid hva
        have HO1 := Lib.hid hok1
        have HA3 := Lib.hid (chain1 HA2.out hb)
        obtain ⟨aa, al, ac, rfl, _⟩ := hva.form
        clear hva hok1 hb HNA HA2
        go_wp2_with fail
        refine (HNB.out _ (chain1 HW0.out HA3.out)).mono ?_
        rintro e W4 (⟨hok2, vb, rfl, hvb, hb⟩ | ⟨hok2, rfl, hb⟩)
        · obtain ⟨ba, bl, bc, rfl, _, hbz, _⟩ := hvb.form
          have HVB := Lib.hid hvb
          have HVA := Lib.hid (HVA.out.below hb (Nat.le_refl _))
          have HO2 := Lib.hid hok2
          have HA4 := Lib.hid (chain1 HA3.out hb)
          by_cases hd0 : dval (belowOf l) = 0
          · have hbl : bl = 0 := hbz.2 hd0
            have HD0 := Lib.hid hd0
            subst hbl
            clear hvb hok2 hb HNB HA3 hbz hd0
            have hfin := ReadPost.err (readQ_none H4.out (by unfold parsed; rw [HO1.out, HO2.out, HD0.out]; rfl)) (store4 HW0.out HA4.out (Nat.le_refl _) (.bool false) (.int .u64 0) (.int .u64 0) (.pointer none))
            have HFin := Lib.hid hfin
            (have hz := HZ.out.below HA4.out (Nat.le_refl _); have zf := hz.frozen; obtain ⟨z0, z1, z2, z3⟩ := hz.cells; have zf0 := zf 0; have zf1 := zf 1; have zf2 := zf 2; have zf3 := zf 3; clear zf hz)
            clear hfin
            go_wp2_with fail
            refine bodyPost_ret (v := .tuple #[lo false 0 0, .int .i64 4]) (by simp [results, Tryz.results15, go_sem, z0, z1, z2, z3]) rfl ?_
            exact HFin.out
          · have hbl : (((bl : Nat) : Int) == 0) = false := by rw [beq_eq_false_iff_ne]; intro e; exact hd0 (hbz.1 (by omega))
            have hpar : parsed l = some (signed (minusOf l) (dval (aboveOf l)) * ((dval (belowOf l) : Nat) : Rat)⁻¹) := by
              unfold parsed
              rw [HO1.out, HO2.out, Bool.true_and, Bool.true_and, if_pos (by simpa using hd0)]
            have HPar := Lib.hid (readQ_some H4.out hpar)
            have HWn := Lib.hid (fun v W (hv : IsNat W v (dval (aboveOf l))) => (whole_any (minusOf l) v _ W hv).mono fun e W' h => h.q (r := signed (minusOf l) (dval (aboveOf l))) (signed_num' _ _).1 (signed_num' _ _).2)
            have HWd := Lib.hid (fun v W (hv : IsNat W v (dval (belowOf l))) => (whole_any false v _ W hv).mono fun e W' h => h.q (r := ((dval (belowOf l) : Nat) : Rat)) rfl rfl)
            have hdn : (((dval (belowOf l) : Nat) : Rat)).num ≠ 0 := by
              show ((dval (belowOf l) : Nat) : Int) ≠ 0
              omega
            have HRc := Lib.hid (fun v W (hv : IsQ W v ((dval (belowOf l) : Nat) : Rat)) => recip_q v _ W hv hdn)
            obtain ⟨K, hK1, hK2, hK3⟩ : ∃ K : Nat, 4001 ≤ 19 * K ∧ (K : Int) ≤ 1073741824 ∧ ((K + K : Nat) : Int) ≤ 1073741824 := ⟨300, by omega, by omega, by omega⟩
            have hz1 := signed_siz (k := K) (minusOf l) (dval_siz HO1.out (by have := aboveOf_len l; omega)) (by omega)
            have hz2 := nat_siz (k := K) (dval_siz HO2.out (by have := belowOf_len l; omega)) (by omega)
            have hz3 := hz2.inv hdn
            have HTm := Lib.hid (fun v1 v2 W h1 h2 hG => timesWide_q v1 v2 (signed (minusOf l) (dval (aboveOf l))) ((dval (belowOf l) : Nat) : Rat)⁻¹ K W h1 h2 hz1 hz3 hK2 hG)
            have HTx := Lib.hid (fun v W h => text_q v (signed (minusOf l) (dval (aboveOf l)) * ((dval (belowOf l) : Nat) : Rat)⁻¹) (K + K) W h (hz1.mul hz3) hK3)
            clear hz1 hz2 hz3 hK1 hK2 hK3 hdn hpar hvb hok2 hb HNB HA3 hbz hd0
            generalize signed (minusOf l) (dval (aboveOf l)) = qn at *
            generalize hdv : ((dval (belowOf l) : Nat) : Rat) = qd at *
            go_wp2_with fail
            refine (HWn.out _ _ HVA.out).mono ?_
            rintro e W5 ⟨v1, rfl, hv1, hb⟩
            have HV1 := Lib.hid hv1
            have HVB := Lib.hid (HVB.out.below hb (Nat.le_refl _))
            have HA5 := Lib.hid (chain1 HA4.out hb)
            obtain ⟨_, _, _, _, rfl⟩ := hv1.form
            clear hv1 hb HWn HA4 HVA hdv
            go_wp2_with fail
            refine (HWd.out _ _ HVB.out).mono ?_
            rintro e W6 ⟨v2, rfl, hv2, hb⟩
            have HV1 := Lib.hid (HV1.out.below hb (Nat.le_refl _))
            have HV2 := Lib.hid hv2
            have HA6 := Lib.hid (chain1 HA5.out hb)
            obtain ⟨_, _, _, _, rfl⟩ := hv2.form
            clear hv2 hb HWd HA5 HVB
            go_wp2_with fail
            refine (HRc.out _ _ HV2.out).mono ?_
            rintro e W7 ⟨v3, rfl, hv3, hb⟩
            have HV1 := Lib.hid (HV1.out.below hb (Nat.le_refl _))
            have HV3 := Lib.hid hv3
            have HA7 := Lib.hid (chain1 HA6.out hb)
            obtain ⟨_, _, _, _, rfl⟩ := hv3.form
            clear hv3 hb HRc HA6 HV2
            go_wp2_with fail
            refine (HTm.out _ _ _ HV1.out HV3.out (HG.out.below (chain1 HW0.out HA7.out) HG.out.size)).mono ?_
            rintro e W8 ⟨v4, rfl, hv4, hb⟩
            have HV4 := Lib.hid hv4
            have HA8 := Lib.hid (chain1 HA7.out hb)
            obtain ⟨sx, ax, bx, px, rfl⟩ := hv4.form
            clear hv4 hb HTm HA7 HV1 HV3
            have hlt : w.heap.size < W8.heap.size := World.block_lt_of_cell? W8 ⟨w.heap.size, 0, none⟩ (HZ.out.below HA8.out (Nat.le_refl _)).cells.1
            go_wp2_with fail
            obtain ⟨W9, hW, hb, ⟨g0, g1, g2, g3⟩⟩ := box1 W8 (.bool sx) (u ax) (u bx) (.pointer px); rw [← hW]; clear hW
            have HV4 := Lib.hid (HV4.out.below hb (Nat.le_refl _))
            have HA9 := Lib.hid (chain1 HA8.out hb)
            have m1 : ¬ w.heap.size = W8.heap.size := by omega
            have m2 : ¬ W8.heap.size = w.heap.size := by omega
            clear hb HA8 hlt
            generalize W8.heap.size = bx1 at *
            refine (HTx.out _ _ HV4.out).mono ?_
            rintro e W10 ⟨rfl, hb⟩
            (have hh := boxq (b := bx1) hb g0 g1 g2 g3; clear g0 g1 g2 g3; obtain ⟨g0, g1, g2, g3⟩ := hh)
            have HV4 := Lib.hid (HV4.out.below hb (Nat.le_refl _))
            have HAx := Lib.hid (chain1 HA9.out hb)
            clear hb HA9 HTx
            by_cases hq : qtext (qn * qd⁻¹) = l
            · rw [hq]
              have hp := HPar.out
              rw [if_pos hq] at hp
              have hz := HZ.out.below HAx.out (Nat.le_refl _)
              have hfin := QNew.stored (a0 := .bool sx) (a1 := u ax) (a2 := u bx) (a3 := .pointer px) hz HV4.out (chain1 HW0.out HAx.out) (Nat.le_refl _)
              have HFin := Lib.hid hfin
              have HPv := Lib.hid hp
              (have hz := HZ.out.below HAx.out (Nat.le_refl _); have zf := hz.frozen; obtain ⟨z0, z1, z2, z3⟩ := hz.cells; have zf0 := zf 0; have zf1 := zf 1; have zf2 := zf 2; have zf3 := zf 3; clear zf hz)
              clear hfin hz hq hp HPar
              go_wp2_with fail
              refine bodyPost_ret (v := .tuple #[.agg #[.bool sx, u ax, u bx, .pointer px], .int .i64 0]) (by simp [results, Tryz.results15, go_sem, z0, z1, z2, z3]) rfl ?_
              obtain ⟨v, hv, hqq, hbb⟩ := HFin.out
              injection hv with hv
              subst hv
              refine ⟨_, by rw [HPv.out], ?_, hbb⟩
              rw [HPv.out]
              exact hqq
            · have hp := HPar.out
              rw [if_neg hq] at hp
              have hfin := ReadPost.err hp (store4 HW0.out HAx.out (Nat.le_refl _) (.bool false) (.int .u64 0) (.int .u64 0) (.pointer none))
              have HFin := Lib.hid hfin
              (have hz := HZ.out.below HAx.out (Nat.le_refl _); have zf := hz.frozen; obtain ⟨z0, z1, z2, z3⟩ := hz.cells; have zf0 := zf 0; have zf1 := zf 1; have zf2 := zf 2; have zf3 := zf 3; clear zf hz)
              clear hfin hp HPar HV4
              generalize qtext (qn * qd⁻¹) = tq at *
              have hqb : (tq == l) = false := by simpa using hq
              clear hq
              go_wp2_with fail
              refine bodyPost_ret (v := .tuple #[lo false 0 0, .int .i64 4]) (by simp [results, Tryz.results15, go_sem, z0, z1, z2, z3]) rfl ?_
              exact HFin.out
        · have HO2 := Lib.hid hok2
          have HA4 := Lib.hid (chain1 HA3.out hb)
          clear hok2 hb HNB HA3 HVA
          have hfin := ReadPost.err (readQ_none H4.out (by unfold parsed; rw [HO2.out, Bool.and_false, Bool.false_and]; rfl)) (store4 HW0.out HA4.out (Nat.le_refl _) (.bool false) (.int .u64 0) (.int .u64 0) (.pointer none))
          have HFin := Lib.hid hfin
          (have hz := HZ.out.below HA4.out (Nat.le_refl _); have zf := hz.frozen; obtain ⟨z0, z1, z2, z3⟩ := hz.cells; have zf0 := zf 0; have zf1 := zf 1; have zf2 := zf 2; have zf3 := zf 3; clear zf hz)
          clear hfin
          go_wp2_with fail
          refine bodyPost_ret (v := .tuple #[lo false 0 0, .int .i64 4]) (by simp [results, Tryz.results15, go_sem, z0, z1, z2, z3]) rfl ?_
          exact HFin.out
      · have HO1 := Lib.hid hok1
        have HA3 := Lib.hid (chain1 HA2.out hb)
        clear hok1 hb HNA HA2
        go_wp2_with fail
        refine (HNB.out _ (chain1 HW0.out HA3.out)).mono ?_
        rintro e W4 (⟨hok2, vb, rfl, hvb, hb⟩ | ⟨hok2, rfl, hb⟩)
        · obtain ⟨ba, bl, bc, rfl, _⟩ := hvb.form
          have HA4 := Lib.hid (chain1 HA3.out hb)
          clear hvb hok2 hb HNB HA3
          have hfin := ReadPost.err (readQ_none H4.out (by unfold parsed; rw [HO1.out, Bool.false_and, Bool.false_and]; rfl)) (store4 HW0.out HA4.out (Nat.le_refl _) (.bool false) (.int .u64 0) (.int .u64 0) (.pointer none))
          have HFin := Lib.hid hfin
          (have hz := HZ.out.below HA4.out (Nat.le_refl _); have zf := hz.frozen; obtain ⟨z0, z1, z2, z3⟩ := hz.cells; have zf0 := zf 0; have zf1 := zf 1; have zf2 := zf 2; have zf3 := zf 3; clear zf hz)
          clear hfin
          go_wp2_with fail
          refine bodyPost_ret (v := .tuple #[lo false 0 0, .int .i64 4]) (by simp [results, Tryz.results15, go_sem, z0, z1, z2, z3]) rfl ?_
          exact HFin.out
        · have HA4 := Lib.hid (chain1 HA3.out hb)
          clear hok2 hb HNB HA3
          have hfin := ReadPost.err (readQ_none H4.out (by unfold parsed; rw [HO1.out, Bool.false_and, Bool.false_and]; rfl)) (store4 HW0.out HA4.out (Nat.le_refl _) (.bool false) (.int .u64 0) (.int .u64 0) (.pointer none))
          have HFin := Lib.hid hfin
          (have hz := HZ.out.below HA4.out (Nat.le_refl _); have zf := hz.frozen; obtain ⟨z0, z1, z2, z3⟩ := hz.cells; have zf0 := zf 0; have zf1 := zf 1; have zf2 := zf 2; have zf3 := zf 3; clear zf hz)
          clear hfin
          go_wp2_with fail
          refine bodyPost_ret (v := .tuple #[lo false 0 0, .int .i64 4]) (by simp [results, Tryz.results15, go_sem, z0, z1, z2, z3]) rfl ?_
          exact HFin.out

end Go.Proofs.YtojploidgagmgaaGreatDoor

/- Q.Parts: numerator and denominator. -/
namespace Go.Proofs.YtojploidgagmgaaGreatDoor
open Go Go.RowKit Go.Proofs Lim

/-- What Parts leaves. -/
def PartsQ (w : World) (s t : Rat) (e : Ending) (w' : World) : Prop := ∃ v1 v2, e = .returned (.tuple #[v1, v2]) ∧ IsQ w' v1 s ∧ IsQ w' v2 t ∧ Below w.heap.size w w'

/-- A number's box and those of two results. -/
theorem box3z (w : World) (a0 a1 a2 a3 : Value) : ∃ W, W = ((w.alloc (.cells #[a0, a1, a2, a3] 26)).alloc (.cells #[.bool false, .int .u64 0, .int .u64 0, .pointer none] 26)).alloc (.cells #[.bool false, .int .u64 0, .int .u64 0, .pointer none] 26) ∧ Below w.heap.size w W ∧
    (W.cell? ⟨w.heap.size, 0, none⟩ = some a0 ∧ W.cell? ⟨w.heap.size, 1, none⟩ = some a1 ∧ W.cell? ⟨w.heap.size, 2, none⟩ = some a2 ∧ W.cell? ⟨w.heap.size, 3, none⟩ = some a3) ∧
    Box W (w.heap.size + 1) (.bool false) (.int .u64 0) (.int .u64 0) (.pointer none) ∧ Box W (w.heap.size + 1 + 1) (.bool false) (.int .u64 0) (.int .u64 0) (.pointer none) := by
  have hb1 := below1 w (.cells #[a0, a1, a2, a3] 26)
  have h1 := heap_alloc_new w (.cells #[a0, a1, a2, a3] 26)
  have hs1 : (w.alloc (.cells #[a0, a1, a2, a3] 26)).heap.size = w.heap.size + 1 := World.size_alloc ..
  generalize w.alloc (.cells #[a0, a1, a2, a3] 26) = W1 at *
  have hb2 := below1 W1 (.cells #[.bool false, .int .u64 0, .int .u64 0, .pointer none] 26)
  have h2 := heap_alloc_new W1 (.cells #[.bool false, .int .u64 0, .int .u64 0, .pointer none] 26)
  have hs2 : (W1.alloc (.cells #[.bool false, .int .u64 0, .int .u64 0, .pointer none] 26)).heap.size = w.heap.size + 1 + 1 := by rw [World.size_alloc, hs1]
  rw [hs1] at h2
  generalize W1.alloc (.cells #[.bool false, .int .u64 0, .int .u64 0, .pointer none] 26) = W2 at *
  have hb3 := below1 W2 (.cells #[.bool false, .int .u64 0, .int .u64 0, .pointer none] 26)
  have h3 := heap_alloc_new W2 (.cells #[.bool false, .int .u64 0, .int .u64 0, .pointer none] 26)
  rw [hs2] at h3
  have hx : Box W1 w.heap.size a0 a1 a2 a3 := h1
  exact ⟨_, rfl, chain1 (chain1 hb1 hb2) hb3, (((hx.below hb2 (Nat.le_refl _)).below hb3 (Nat.le_refl _))).cells, Box.below h2 hb3 (Nat.le_refl _), h3⟩

/-- Two results that are returned from their boxes. -/
theorem stored2 {w W : World} {R1 R2 : Nat} {v1 v2 : Value} {r1 r2 : Rat} {a0 a1 a2 a3 b0 b1 b2 b3 : Value} (hR1 : Box W R1 (.bool false) (.int .u64 0) (.int .u64 0) (.pointer none)) (hR2 : Box W R2 (.bool false) (.int .u64 0) (.int .u64 0) (.pointer none))
    (h1 : IsQ W v1 r1) (h2 : IsQ W v2 r2) (hb : Below w.heap.size w W) (hw1 : w.heap.size ≤ R1) (hw2 : w.heap.size ≤ R2) (hne : R2 ≠ R1) :
    PartsQ w r1 r2 (.returned (.tuple #[v1, v2])) ((((((((W.setCell ⟨R1, 0, none⟩ a0).setCell ⟨R1, 1, none⟩ a1).setCell ⟨R1, 2, none⟩ a2).setCell ⟨R1, 3, none⟩ a3).setCell ⟨R2, 0, none⟩ b0).setCell ⟨R2, 1, none⟩ b1).setCell ⟨R2, 2, none⟩ b2).setCell ⟨R2, 3, none⟩ b3) := by
  have ho := ((((Only.refl R1 W).set 0 a0).set 1 a1).set 2 a2).set 3 a3
  generalize (((W.setCell ⟨R1, 0, none⟩ a0).setCell ⟨R1, 1, none⟩ a1).setCell ⟨R1, 2, none⟩ a2).setCell ⟨R1, 3, none⟩ a3 = W1 at *
  have k1 : IsQ W1 v1 r1 := Num.only hR1 h1 ho
  have k2 : IsQ W1 v2 r2 := Num.only hR1 h2 ho
  have kR : Box W1 R2 (.bool false) (.int .u64 0) (.int .u64 0) (.pointer none) := (ho.block R2 hne).trans hR2
  have ho2 := ((((Only.refl R2 W1).set 0 b0).set 1 b1).set 2 b2).set 3 b3
  exact ⟨v1, v2, rfl, Num.only kR k1 ho2, Num.only kR k2 ho2, (hb.trans (ho.below hw1)).trans (ho2.below hw2)⟩

theorem parts_low (r : Rat) (l : Nat) (hd : r.den = l + 1) (hn : r.num.natAbs < B) (hdB : r.den < B) (w : World) :
    Calls Tryz.prog 26 #[lo (neg? r) r.num.natAbs l] w (PartsQ w (r.num : Rat) (((r.den : Nat) : Int) : Rat)) := by
  have HBo := Lib.hid (fun W => bottom_any (neg? r) r.num.natAbs l none (hd ▸ hdB) W)
  have HS1 := Lib.hid (fun W => show Calls Tryz.prog 93 #[.bool (neg? r), u r.num.natAbs, .int .u64 1] W (QNew W (r.num : Rat)) from (small_any (neg? r) r.num.natAbs 1 (by decide) W).mono (fun e W' h => ⟨_, h.1, by
    unfold IsQ
    rw [Rat.num_intCast, Rat.den_intCast]
    have e0 : (neg? r && !decide (r.num.natAbs = 0)) = decide (r.num < 0) := by unfold neg?; rw [Bool.eq_iff_iff]; simp; intro h e; rw [e] at h; simp at h
    rw [e0]
    exact Num.low 0 rfl rfl hn (by decide), h.2⟩))
  have HS2 := Lib.hid (fun W => show Calls Tryz.prog 93 #[.bool false, u r.den, .int .u64 1] W (QNew W (((r.den : Nat) : Int) : Rat)) from (small_any false r.den 1 (by decide) W).mono (fun e W' h => ⟨_, h.1, by
    unfold IsQ
    rw [Rat.num_intCast, Rat.den_intCast]
    have e0 : (false && !decide (r.den = 0)) = decide (((r.den : Nat) : Int) < 0) := by rw [Bool.eq_iff_iff]; simp
    rw [e0, Int.natAbs_natCast]
    exact Num.low 0 rfl rfl hdB (by decide), h.2⟩))
  rw [← hd] at HBo
  clear hd hn hdB
  generalize (r.num : Rat) = s at *
  generalize (((r.den : Nat) : Int) : Rat) = t at *
  generalize neg? r = sg at *
  generalize r.num.natAbs = n at *
  generalize r.den = d at *
  go_enter Tryz.func26, Tryz.ntmps26
  go_wp2_with fail
  obtain ⟨W0, hW0, hb0, ⟨f0, f1, f2, f3⟩, hz1, hz2⟩ := box3z w (.bool sg) (u n) (u l) (.pointer none); rw [← hW0]; clear hW0
  have HZ1 := Lib.hid hz1
  have HZ2 := Lib.hid hz2
  have HW0 := Lib.hid hb0
  have hb0 := Below.refl W0.heap.size W0
  have n1 : ¬ w.heap.size = w.heap.size + 1 := by omega
  have n2 : ¬ w.heap.size + 1 = w.heap.size := by omega
  have n3 : ¬ w.heap.size = w.heap.size + 1 + 1 := by omega
  have n4 : ¬ w.heap.size + 1 + 1 = w.heap.size := by omega
  have n5 : ¬ w.heap.size + 1 = w.heap.size + 1 + 1 := by omega
  have n6 : ¬ w.heap.size + 1 + 1 = w.heap.size + 1 := by omega
  clear hz1 hz2
  go_region_held3 (fun w' => (w'.cell? ⟨w.heap.size, 0, none⟩ = some (.bool sg) ∧ w'.cell? ⟨w.heap.size, 1, none⟩ = some (u n) ∧ w'.cell? ⟨w.heap.size, 2, none⟩ = some (u l) ∧ w'.cell? ⟨w.heap.size, 3, none⟩ = some (.pointer none))) (go_keep) (first | ((with_reducible refine (HBo.out _).mono ?_); rintro e W2 ⟨rfl, hb⟩; (have hh := boxq (b := w.heap.size) hb f0 f1 f2 f3; clear f0 f1 f2 f3; obtain ⟨f0, f1, f2, f3⟩ := hh); have hv1 := hv1.below hb (Nat.le_refl _); have hb0 : Below W0.heap.size W0 W2 := (by first | exact chain hb0 hb | exact chain1 hb0 hb); clear hb) | ((with_reducible refine (HS1.out _).mono ?_); rintro e W1 ⟨v1, rfl, hv1, hb⟩; obtain ⟨sg1, a1, b1, p1, rfl⟩ := hv1.form; (have hh := boxq (b := w.heap.size) hb f0 f1 f2 f3; clear f0 f1 f2 f3; obtain ⟨f0, f1, f2, f3⟩ := hh); have hb0 : Below W0.heap.size W0 W1 := (by first | exact chain hb0 hb | exact chain1 hb0 hb); clear hb) | ((with_reducible refine (HS2.out _).mono ?_); rintro e W3 ⟨v2, rfl, hv2, hb⟩; obtain ⟨sg2, a2, b2, p2, rfl⟩ := hv2.form; (have hh := boxq (b := w.heap.size) hb f0 f1 f2 f3; clear f0 f1 f2 f3; obtain ⟨f0, f1, f2, f3⟩ := hh); have hv1 := hv1.below hb (Nat.le_refl _); have hb0 : Below W0.heap.size W0 W3 := (by first | exact chain hb0 hb | exact chain1 hb0 hb); (have hz := HZ1.out.below hb0 (Nat.le_refl _); have zf := hz.frozen; obtain ⟨y0, y1, y2, y3⟩ := hz.cells; have yf0 := zf 0; have yf1 := zf 1; have yf2 := zf 2; have yf3 := zf 3; clear zf hz); (have hz := HZ2.out.below hb0 (Nat.le_refl _); have zf := hz.frozen; obtain ⟨z0, z1, z2, z3⟩ := hz.cells; have zf0 := zf 0; have zf1 := zf 1; have zf2 := zf 2; have zf3 := zf 3; clear zf hz); clear hb))
  have hfin := stored2 (a0 := .bool sg1) (a1 := u a1) (a2 := u b1) (a3 := .pointer p1) (b0 := .bool sg2) (b1 := u a2) (b2 := u b2) (b3 := .pointer p2) (HZ1.out.below hb0 (Nat.le_refl _)) (HZ2.out.below hb0 (Nat.le_refl _)) hv1 hv2 (chain1 HW0.out hb0) (by omega) (by omega) (by omega)
  have HFin := Lib.hid hfin
  clear hfin hv1 hv2 hb0 f0 f1 f2 f3
  go_wp2_with fail
  refine bodyPost_ret (v := .tuple #[.agg #[.bool sg1, u a1, u b1, .pointer p1], .agg #[.bool sg2, u a2, u b2, .pointer p2]]) (by simp [results, Tryz.results26, go_sem, z0, z1, z2, z3, y0, y1, y2, y3]) rfl ?_
  exact HFin.out

theorem parts_wide (r : Rat) (b : Nat) (x y : Value) (w : World) (hx : w.cell? ⟨b, 0, none⟩ = some x) (hy : w.cell? ⟨b, 1, none⟩ = some y) (h1 : IsNat w x r.num.natAbs) (h2 : IsNat w y r.den) :
    Calls Tryz.prog 26 #[wi (neg? r) ⟨b, 0, none⟩] w (PartsQ w (r.num : Rat) (((r.den : Nat) : Int) : Rat)) := by
  have HW1 := Lib.hid (fun W (hW : Below w.heap.size w W) => (whole_any (neg? r) x _ W (h1.below hW (Nat.le_refl _))).mono fun e W' h => h.q (r := (r.num : Rat)) (by rw [Rat.num_intCast]; exact (sgn_self _).symm) (by rw [Rat.den_intCast]))
  have HW2 := Lib.hid (fun W (hW : Below w.heap.size w W) => (whole_any false y _ W (h2.below hW (Nat.le_refl _))).mono fun e W' h => h.q (r := (((r.den : Nat) : Int) : Rat)) (by rw [Rat.num_intCast]; rfl) (by rw [Rat.den_intCast]))
  obtain ⟨xa, xl, xc, rfl, _⟩ := h1.form
  obtain ⟨ya, yl, yc, rfl, _⟩ := h2.form
  clear h1 h2
  generalize (r.num : Rat) = s at *
  generalize (((r.den : Nat) : Int) : Rat) = t at *
  generalize neg? r = sg at *
  go_enter Tryz.func26, Tryz.ntmps26
  go_wp2_with fail
  have m1 : ¬ b = w.heap.size + 1 := by have := World.block_lt_of_cell? w _ hx; simp at this; omega
  have m2 : ¬ w.heap.size + 1 = b := fun h => m1 h.symm
  have m3 : ¬ b = w.heap.size + 1 + 1 := by have := World.block_lt_of_cell? w _ hx; simp at this; omega
  have m4 : ¬ w.heap.size + 1 + 1 = b := fun h => m3 h.symm
  obtain ⟨W0, hW0, hb0, ⟨f0, f1, f2, f3⟩, hz1, hz2⟩ := box3z w (.bool sg) (u 0) (u 0) (.pointer (some ⟨b, 0, none⟩)); rw [← hW0]; clear hW0
  have HZ1 := Lib.hid hz1
  have HZ2 := Lib.hid hz2
  have HW0 := Lib.hid hb0
  have hb0 := Below.refl W0.heap.size W0
  have n1 : ¬ w.heap.size = w.heap.size + 1 := by omega
  have n2 : ¬ w.heap.size + 1 = w.heap.size := by omega
  have n3 : ¬ w.heap.size = w.heap.size + 1 + 1 := by omega
  have n4 : ¬ w.heap.size + 1 + 1 = w.heap.size := by omega
  have n5 : ¬ w.heap.size + 1 = w.heap.size + 1 + 1 := by omega
  have n6 : ¬ w.heap.size + 1 + 1 = w.heap.size + 1 := by omega
  clear hz1 hz2
  have hx : W0.cell? ⟨b, 0, none⟩ = some (.slice xa xl xc) := (HW0.out.cell (p := ⟨b, 0, none⟩) (World.block_lt_of_cell? w _ hx)).trans hx
  have hy : W0.cell? ⟨b, 1, none⟩ = some (.slice ya yl yc) := (HW0.out.cell (p := ⟨b, 1, none⟩) (World.block_lt_of_cell? w _ hy)).trans hy
  go_region_held3 (fun w' => (w'.cell? ⟨w.heap.size, 0, none⟩ = some (.bool sg) ∧ w'.cell? ⟨w.heap.size, 3, none⟩ = some (.pointer (some ⟨b, 0, none⟩))) ∧ w'.cell? ⟨b, 0, none⟩ = some (.slice xa xl xc) ∧ w'.cell? ⟨b, 1, none⟩ = some (.slice ya yl yc)) (go_keep) (first | ((with_reducible refine (HW1.out _ (HW0.out.drew)).mono ?_); rintro e W1 ⟨v1, rfl, hv1, hb⟩; obtain ⟨sg1, a1, b1, p1, rfl⟩ := hv1.form; (have hh := boxq (b := w.heap.size) hb f0 f1 f2 f3; clear f0 f1 f2 f3; obtain ⟨f0, f1, f2, f3⟩ := hh); have hb0 : Below W0.heap.size W0 W1 := (by first | exact chain hb0 hb | exact chain1 hb0 hb); have hx := (hb0.cell (p := ⟨b, 0, none⟩) (World.block_lt_of_cell? W0 _ hx)).trans hx; have hy := (hb0.cell (p := ⟨b, 1, none⟩) (World.block_lt_of_cell? W0 _ hy)).trans hy; clear hb) | ((with_reducible refine (HW2.out _ (chain1 HW0.out hb0)).mono ?_); rintro e W3 ⟨v2, rfl, hv2, hb⟩; obtain ⟨sg2, a2, b2, p2, rfl⟩ := hv2.form; (have hh := boxq (b := w.heap.size) hb f0 f1 f2 f3; clear f0 f1 f2 f3; obtain ⟨f0, f1, f2, f3⟩ := hh); have hv1 := hv1.below hb (Nat.le_refl _); have hx := (hb.cell (p := ⟨b, 0, none⟩) (World.block_lt_of_cell? W1 _ hx)).trans hx; have hy := (hb.cell (p := ⟨b, 1, none⟩) (World.block_lt_of_cell? W1 _ hy)).trans hy; have hb0 : Below W0.heap.size W0 W3 := (by first | exact chain hb0 hb | exact chain1 hb0 hb); (have hz := HZ1.out.below hb0 (Nat.le_refl _); have zf := hz.frozen; obtain ⟨y0, y1, y2, y3⟩ := hz.cells; have yf0 := zf 0; have yf1 := zf 1; have yf2 := zf 2; have yf3 := zf 3; clear zf hz); (have hz := HZ2.out.below hb0 (Nat.le_refl _); have zf := hz.frozen; obtain ⟨z0, z1, z2, z3⟩ := hz.cells; have zf0 := zf 0; have zf1 := zf 1; have zf2 := zf 2; have zf3 := zf 3; clear zf hz); clear hb))
  have hfin := stored2 (a0 := .bool sg1) (a1 := u a1) (a2 := u b1) (a3 := .pointer p1) (b0 := .bool sg2) (b1 := u a2) (b2 := u b2) (b3 := .pointer p2) (HZ1.out.below hb0 (Nat.le_refl _)) (HZ2.out.below hb0 (Nat.le_refl _)) hv1 hv2 (chain1 HW0.out hb0) (by omega) (by omega) (by omega)
  have HFin := Lib.hid hfin
  clear hfin hv1 hv2 hb0 f0 f1 f2 f3
  go_wp2_with fail
  refine bodyPost_ret (v := .tuple #[.agg #[.bool sg1, u a1, u b1, .pointer p1], .agg #[.bool sg2, u a2, u b2, .pointer p2]]) (by simp [results, Tryz.results26, go_sem, z0, z1, z2, z3, y0, y1, y2, y3]) rfl ?_
  exact HFin.out

theorem parts_q (v : Value) (r : Rat) (w : World) (h : IsQ w v r) :
    Calls Tryz.prog 26 #[v] w (PartsQ w (r.num : Rat) (((r.den : Nat) : Int) : Rat)) := by
  cases h with
  | low l hv hd hn hdB => subst hv; exact parts_low r l hd hn hdB w
  | wide b x y hv hx hy h1 h2 hB h0 hd => subst hv; exact parts_wide r b x y w hx hy h1 h2

end Go.Proofs.YtojploidgagmgaaGreatDoor
