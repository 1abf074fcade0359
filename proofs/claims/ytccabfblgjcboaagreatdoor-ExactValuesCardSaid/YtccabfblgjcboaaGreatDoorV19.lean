/- Package exact: Cut QCut QFloor QText ReadNat. -/
import Derived.Test.YtccabfblgjcboaaGreatDoorV18
import Derived.Test.YtccabfblgjcboaaGreatDoorV15
import Derived.Lib.ParseIntB
set_option linter.all false

namespace Go.Proofs.YtccabfblgjcboaaGreatDoor.Lim
def cutI (r : Rat) : Int := if r.num < 0 then -((r.num.natAbs / r.den : Nat) : Int) else ((r.num.natAbs / r.den : Nat) : Int)
theorem cutI_natAbs (r : Rat) : (cutI r).natAbs = r.num.natAbs / r.den := by
 unfold cutI
 generalize r.num.natAbs / r.den = q
 split <;> omega
theorem floor_cut (r : Rat) : r.floor = if r.num < 0 ∧ r.num.natAbs % r.den ≠ 0 then cutI r - 1 else cutI r := by
  rw [Rat.floor_def]
  unfold cutI
  have hd := r.den_pos
  have h1 := Nat.div_add_mod r.num.natAbs r.den
  have h2 := Nat.mod_lt r.num.natAbs hd
  have h3 := Int.mul_ediv_add_emod r.num r.den
  have h4 := Int.emod_nonneg r.num (b := (r.den : Int)) (by omega)
  have h5 := Int.emod_lt_of_pos r.num (b := (r.den : Int)) (by omega)
  generalize r.num / (r.den : Int) = Q at *
  generalize r.num % (r.den : Int) = R at *
  generalize r.num.natAbs / r.den = q at *
  generalize r.num.natAbs % r.den = m at *
  generalize r.den = d at *
  by_cases hn : r.num < 0
  · have e : (r.num : Int) = -((d : Int) * q + m) := by have : (r.num.natAbs : Int) = -r.num := by omega
                                                        rw [← h1] at this; push_cast at this; omega
    by_cases hm : m = 0
    · subst hm
      rw [if_neg (by simp), if_pos hn]
      have : (d : Int) * (Q + q) = -R := by rw [Int.mul_add]; rw [e] at h3; push_cast at h3; omega
      have h0 : Q + q = 0 := by
        rcases Int.lt_trichotomy (Q + q) 0 with h | h | h
        · have := Int.mul_le_mul_of_nonneg_left (show Q + q ≤ -1 by omega) (show (0:Int) ≤ d by omega); omega
        · exact h
        · have := Int.mul_le_mul_of_nonneg_left (show 1 ≤ Q + q by omega) (show (0:Int) ≤ d by omega); omega
      omega
    · rw [if_pos ⟨hn, hm⟩, if_pos hn]
      have : (d : Int) * (Q + q) = -R - m := by rw [Int.mul_add]; omega
      have h0 : Q + q = -1 := by
        rcases Int.lt_trichotomy (Q + q) (-1) with h | h | h
        · have := Int.mul_le_mul_of_nonneg_left (show Q + q ≤ -2 by omega) (show (0:Int) ≤ d by omega); omega
        · exact h
        · have := Int.mul_le_mul_of_nonneg_left (show 0 ≤ Q + q by omega) (show (0:Int) ≤ d by omega); omega
      omega
  · have e : (r.num : Int) = (d : Int) * q + m := by have : (r.num.natAbs : Int) = r.num := by omega
                                                     rw [← h1] at this; push_cast at this; omega
    rw [if_neg (by simp [hn]), if_neg hn]
    have : (d : Int) * (Q - q) = m - R := by rw [Int.mul_sub]; omega
    have h0 : Q - q = 0 := by
      rcases Int.lt_trichotomy (Q - q) 0 with h | h | h
      · have := Int.mul_le_mul_of_nonneg_left (show Q - q ≤ -1 by omega) (show (0:Int) ≤ d by omega); omega
      · exact h
      · have := Int.mul_le_mul_of_nonneg_left (show 1 ≤ Q - q by omega) (show (0:Int) ≤ d by omega); omega
    omega
theorem den_one_iff (r : Rat) : r.num.natAbs % r.den = 0 ↔ r.den = 1 := by
 constructor
 · intro h
   have := r.reduced
   have hd : r.den ∣ r.num.natAbs := Nat.dvd_of_mod_eq_zero h
   have hg : Nat.gcd r.num.natAbs r.den = r.den := Nat.gcd_eq_right hd
   rw [Nat.Coprime, hg] at this
   exact this
 · intro h; rw [h, Nat.mod_one]
theorem ceil_neg (r : Rat) : r.ceil = -((-r).floor) := by
 unfold Rat.ceil
 rw [Rat.floor_def, Rat.neg_num, Rat.neg_den]
 have hd := r.den_pos
 by_cases h : r.den = 1
 · rw [if_pos h, h]; simp
 · rw [if_neg h]
   have h0 : r.num % (r.den : Int) ≠ 0 := by
    intro e
    refine h ((den_one_iff r).1 (Nat.mod_eq_zero_of_dvd ?_))
    have := Int.natAbs_dvd_natAbs.2 (Int.dvd_of_emod_eq_zero e)
    simpa using this
   rw [Int.neg_ediv, if_neg (by rw [Int.dvd_iff_emod_eq_zero]; exact h0)]
   have : Int.sign (r.den : Int) = 1 := Int.sign_eq_one_of_pos (by omega)
   omega
theorem ceil_cut (r : Rat) : r.ceil = if ¬ r.num < 0 ∧ r.num.natAbs % r.den ≠ 0 then cutI r + 1 else cutI r := by
 rw [ceil_neg, floor_cut]
 unfold cutI
 rw [Rat.neg_num, Rat.neg_den, Int.natAbs_neg]
 rcases Int.lt_trichotomy r.num 0 with h | h | h
 · rw [if_neg (by omega), if_neg (by simp; omega), if_neg (by omega), if_pos h]
 · rw [h]; simp
 · rw [if_pos (show -r.num < 0 by omega), if_neg (show ¬ r.num < 0 by omega)]
   by_cases hm : r.num.natAbs % r.den = 0
   · simp [hm]
   · rw [if_pos ⟨by omega, hm⟩, if_pos ⟨by omega, hm⟩]; omega
end Go.Proofs.YtccabfblgjcboaaGreatDoor.Lim

namespace Go.Proofs.YtccabfblgjcboaaGreatDoor
open Go Go.RowKit Go.Proofs Lim
def CutPost (w : World) (t : Rat) (rest : Bool) (e : Ending) (w' : World) : Prop := ∃ v, e = .returned (.tuple #[v, .bool rest]) ∧ cR w' v t ∧ Below w.heap.size w w'
def hasRest (r : Rat) : Bool := decide (r.num.natAbs % r.den ≠ 0)
theorem cutI_neg (r : Rat) (n : Nat) (hn : n = r.num.natAbs / r.den) : (neg? r && !decide (n = 0)) = decide (cutI r < 0) := by
 unfold cutI
 rw [← hn, Bool.eq_iff_iff]
 by_cases h : r.num < 0
 · simp [h]; omega
 · simp [h]
theorem cut_low (r : Rat) (l : Nat) (hd : r.den = l + 1) (hn : r.num.natAbs < B) (hdB : r.den < B) (w : World) :
 Calls Tryz.prog 99 #[lo (neg? r) r.num.natAbs l] w (CutPost w ((cutI r : Int) : Rat) (hasRest r)) := by
 have hqB : r.num.natAbs / r.den < B := Nat.lt_of_le_of_lt (Nat.div_le_self _ _) hn
 have hmB : r.num.natAbs % r.den < B := Nat.lt_of_le_of_lt (Nat.mod_le _ _) hn
 have hq : ∀ W, cR W (lo (neg? r && !decide (r.num.natAbs / r.den = 0)) (r.num.natAbs / r.den) (difLo 1 1)) ((cutI r : Int) : Rat) := by
  intro W
  unfold cR
  rw [Rat.num_intCast, Rat.den_intCast, cutI_natAbs, cutI_neg r _ rfl]
  exact Num.low 0 rfl rfl hqB (by decide)
 have HQ := Lib.hid hq
 have HS := Lib.hid (fun W => show Calls Tryz.prog 86 #[.bool (neg? r), u (r.num.natAbs / r.den), .int .u64 1] W (Val W (lo (neg? r && !decide (r.num.natAbs / r.den = 0)) (r.num.natAbs / r.den) (difLo 1 1))) from small_any (neg? r) (r.num.natAbs / r.den) 1 (by decide) W)
 have HBo := Lib.hid (fun W => bottom_any (neg? r) r.num.natAbs l none (hd ▸ hdB) W)
 rw [← hd] at HBo
 have d0 : ¬ r.den = 0 := r.den_nz
 unfold hasRest
 clear hq hd
 generalize ((cutI r : Int) : Rat) = t at *
 generalize neg? r = sg at *
 generalize r.num.natAbs = n at *
 generalize r.den = d at *
 have t1 : Int.tdiv ((n : Nat) : Int) ((d : Nat) : Int) = ((n / d : Nat) : Int) := by rw [Int.tdiv_eq_ediv_of_nonneg (by omega), Int.natCast_ediv]
 have t2 : Int.tmod ((n : Nat) : Int) ((d : Nat) : Int) = ((n % d : Nat) : Int) := by rw [Int.tmod_eq_emod_of_nonneg (by omega), Int.natCast_emod]
 have t3 : ((n : Nat) : Int) / ((d : Nat) : Int) = ((n / d : Nat) : Int) := by rw [Int.natCast_ediv]
 have t4 : ((n : Nat) : Int) % ((d : Nat) : Int) = ((n % d : Nat) : Int) := by rw [Int.natCast_emod]
 generalize n / d = q at *
 generalize n % d = m at *
 have w1 : IntKind.u64.wrap ((q : Nat) : Int) = (q : Int) := cP hqB
 have w2 : IntKind.u64.wrap ((m : Nat) : Int) = (m : Int) := cP hmB
 have hm0 : (((m : Nat) : Int) != 0) = decide (m ≠ 0) := by rw [Bool.eq_iff_iff]; simp
 have y1 : (((d : Nat) : Int) == 0) = false := by rw [beq_eq_false_iff_ne]; omega
 generalize decide (m ≠ 0) = rest at *
 generalize (sg && !decide (q = 0)) = sg2 at *
 generalize difLo 1 1 = l2 at *
 go_enter Tryz.func99, Tryz.ntmps99
 go_wp2_with fail
 obtain ⟨W0, hW0, hb0, hx0, hz⟩ := box2w w (.bool sg) (u n) (u l) (.pointer none); rw [← hW0]; clear hW0; obtain ⟨f0, f1, f2, f3⟩ := hx0.cells; have HZ := Lib.hid hz; have HW0 := Lib.hid hb0; have hb0 := Below.refl W0.heap.size W0; clear hz hx0; have n1 : ¬ w.heap.size = w.heap.size + 1 := (by omega); have n2 : ¬ w.heap.size + 1 = w.heap.size := (by omega)
 go_region_held3 (fun w' => (w'.cell? ⟨w.heap.size, 0, none⟩ = some (.bool sg) ∧ w'.cell? ⟨w.heap.size, 1, none⟩ = some (u n) ∧ w'.cell? ⟨w.heap.size, 2, none⟩ = some (u l) ∧ w'.cell? ⟨w.heap.size, 3, none⟩ = some (.pointer none))) (go_keep) (first | ((with_reducible refine (HBo.out _).mono ?_); rintro e W1 ⟨rfl, hb⟩; (obtain ⟨_, _, _, _⟩ := cq (b := w.heap.size) hb (by assumption) (by assumption) (by assumption) (by assumption)); have hb0 : Below W0.heap.size W0 W1 := (by first | exact cI hb0 hb | exact cf hb0 hb); clear hb; (have hz := HZ.out.below hb0 (Nat.le_refl _); have zf := hz.frozen; obtain ⟨z0, z1, z2, z3⟩ := hz.cells; have zf0 := zf 0; have zf1 := zf 1; have zf2 := zf 2; have zf3 := zf 3; clear zf hz)) | ((with_reducible refine (HS.out _).mono ?_); rintro e W2 ⟨rfl, hb⟩; (obtain ⟨_, _, _, _⟩ := cq (b := w.heap.size) hb (by assumption) (by assumption) (by assumption) (by assumption)); have hb0 : Below W0.heap.size W0 W2 := (by first | exact cI hb0 hb | exact cf hb0 hb); clear hb; (have hz := HZ.out.below hb0 (Nat.le_refl _); have zf := hz.frozen; obtain ⟨z0, z1, z2, z3⟩ := hz.cells; have zf0 := zf 0; have zf1 := zf 1; have zf2 := zf 2; have zf3 := zf 3; clear zf hz)))
 have hz := HZ.out.below hb0 (Nat.le_refl _)
 have hfin := cX.stored (a0 := .bool sg2) (a1 := u q) (a2 := u l2) (a3 := .pointer none) hz (HQ.out _) (cf HW0.out hb0) (by omega)
 have HFin := Lib.hid hfin
 clear hfin hz f0 f1 f2 f3
 go_wp2_with fail
 refine bodyPost_ret (v := .tuple #[lo sg2 q l2, .bool rest]) (by simp [results, Tryz.results99, go_sem, z0, z1, z2, z3]) rfl ?_
 obtain ⟨v, hv, hq, hbb⟩ := HFin.out
 injection hv with hv
 subst hv
 exact ⟨_, rfl, hq, hbb⟩
theorem cut_wide (r : Rat) (b k : Nat) (x y : Value) (w : World) (hx : w.cell? ⟨b, 0, none⟩ = some x) (hy : w.cell? ⟨b, 1, none⟩ = some y) (h1 : co w x r.num.natAbs) (h2 : co w y r.den)
 (hk : r.num.natAbs < B ^ k) (hk2 : (k : Int) ≤ 1073741824) :
 Calls Tryz.prog 99 #[wi (neg? r) ⟨b, 0, none⟩] w (CutPost w ((cutI r : Int) : Rat) (hasRest r)) := by
 have HOv := Lib.hid (fun W (hW : Below w.heap.size w W) => over_any x y r.num.natAbs r.den k W (h1.below hW (Nat.le_refl _)) (h2.below hW (Nat.le_refl _)) r.den_pos hk hk2)
 have HW := Lib.hid (fun v W (hv : co W v (r.num.natAbs / r.den)) => (whole_any (neg? r) v _ W hv).mono fun e W' h => h.q (r := ((cutI r : Int) : Rat)) (by rw [Rat.num_intCast]; unfold cutI sgn neg?; simp) (by rw [Rat.den_intCast]))
 obtain ⟨xa, xl, xc, rfl, _⟩ := h1.form
 obtain ⟨ya, yl, yc, rfl, _⟩ := h2.form
 unfold hasRest
 clear h1 h2 hk hk2
 generalize ((cutI r : Int) : Rat) = t at *
 generalize neg? r = sg at *
 obtain ⟨rest, hrest⟩ : ∃ rest, rest = decide (r.num.natAbs % r.den ≠ 0) := ⟨_, rfl⟩
 rw [← hrest]
 have HRest := Lib.hid hrest
 clear hrest
 go_enter Tryz.func99, Tryz.ntmps99
 go_wp2_with fail
 have p1 : ¬ b = w.heap.size + 1 := by have := World.block_lt_of_cell? w _ hx; simp at this; omega
 have p2 : ¬ w.heap.size + 1 = b := fun h => p1 h.symm
 obtain ⟨W0, hW0, hb0, hx0, hz⟩ := box2w w (.bool sg) (u 0) (u 0) (.pointer (some ⟨b, 0, none⟩)); rw [← hW0]; clear hW0; obtain ⟨f0, f1, f2, f3⟩ := hx0.cells; have HZ := Lib.hid hz; have HW0 := Lib.hid hb0; have hb0 := Below.refl W0.heap.size W0; clear hz hx0; have n1 : ¬ w.heap.size = w.heap.size + 1 := (by omega); have n2 : ¬ w.heap.size + 1 = w.heap.size := (by omega)
 have hx : W0.cell? ⟨b, 0, none⟩ = some (.slice xa xl xc) := (HW0.out.cell (p := ⟨b, 0, none⟩) (World.block_lt_of_cell? w _ hx)).trans hx
 have hy : W0.cell? ⟨b, 1, none⟩ = some (.slice ya yl yc) := (HW0.out.cell (p := ⟨b, 1, none⟩) (World.block_lt_of_cell? w _ hy)).trans hy
 go_region_held3 (fun w' => (w'.cell? ⟨w.heap.size, 0, none⟩ = some (.bool sg) ∧ w'.cell? ⟨w.heap.size, 3, none⟩ = some (.pointer (some ⟨b, 0, none⟩))) ∧ w'.cell? ⟨b, 0, none⟩ = some (.slice xa xl xc) ∧ w'.cell? ⟨b, 1, none⟩ = some (.slice ya yl yc)) (go_keep) (((with_reducible refine (HOv.out _ (HW0.out.drew)).mono ?_); rintro e W1 ⟨qv, rv, rfl, hqv, hrv, hb⟩; (obtain ⟨_, _, _, _⟩ := cq (b := w.heap.size) hb (by assumption) (by assumption) (by assumption) (by assumption)); have hb3 := cI hb0 hb; have k1 := (hb3.cell (p := ⟨b, 0, none⟩) (World.block_lt_of_cell? W0 _ hx)).trans hx; have k2 := (hb3.cell (p := ⟨b, 1, none⟩) (World.block_lt_of_cell? W0 _ hy)).trans hy; obtain ⟨qa, ql, qc, rfl, _⟩ := hqv.form; obtain ⟨ra, rl, rc, rfl, _, hrz, _⟩ := hrv.form; (have hz := HZ.out.below hb3 (Nat.le_refl _); have zf := hz.frozen; obtain ⟨z0, z1, z2, z3⟩ := hz.cells; have zf0 := zf 0; have zf1 := zf 1; have zf2 := zf 2; have zf3 := zf 3; clear zf hz)))
 have hrb : (((rl : Nat) : Int) != 0) = rest := by
  rw [HRest.out, Bool.eq_iff_iff]
  simp
  exact not_congr hrz
 have HQV := Lib.hid hqv
 have HA := Lib.hid hb3
 clear hqv hrv hb hb0 hb3 hrz k1 k2 hx hy f0 f1 f2 f3 z0 z1 z2 z3 zf0 zf1 zf2 zf3 p1 p2
 go_wp2_with fail
 refine (HW.out _ _ HQV.out).mono ?_
 rintro e W2 ⟨v, rfl, hv, hb⟩
 have hb3 := cf HA.out hb
 have hv' := hv
 obtain ⟨sg9, a9, b9, p9, rfl⟩ := hv'.form
 have hz := HZ.out.below hb3 (Nat.le_refl _)
 have hfin := cX.stored (a0 := .bool sg9) (a1 := u a9) (a2 := u b9) (a3 := .pointer p9) hz hv (cf HW0.out hb3) (by omega)
 have HFin := Lib.hid hfin
 (have hz := HZ.out.below hb3 (Nat.le_refl _); have zf := hz.frozen; obtain ⟨z0, z1, z2, z3⟩ := hz.cells; have zf0 := zf 0; have zf1 := zf 1; have zf2 := zf 2; have zf3 := zf 3; clear zf hz)
 clear hfin hv hv' hb hb3 hz
 go_wp2_with fail
 refine bodyPost_ret (v := .tuple #[.agg #[.bool sg9, u a9, u b9, .pointer p9], .bool rest]) (by simp [results, Tryz.results99, go_sem, z0, z1, z2, z3]) rfl ?_
 obtain ⟨v, hv, hq, hbb⟩ := HFin.out
 injection hv with hv
 subst hv
 exact ⟨_, rfl, hq, hbb⟩
theorem cut_q (v : Value) (r : Rat) (k : Nat) (w : World) (h : cR w v r) (z : cF r k) (hk : (k : Int) ≤ 1073741824) :
 Calls Tryz.prog 99 #[v] w (CutPost w ((cutI r : Int) : Rat) (hasRest r)) := by
 cases h with
 | low l hv hd hn hdB => subst hv; exact cut_low r l hd hn hdB w
 | wide b x y hv hx hy h1 h2 hB h0 hd => subst hv; exact cut_wide r b k x y w hx hy h1 h2 z.1 hk
open Go Go.RowKit Go.Proofs Lim
theorem cF.cut {r : Rat} {k : Nat} (h : cF r k) (hk : 1 ≤ k) : cF ((cutI r : Int) : Rat) k := by
 unfold cF at *
 rw [Rat.num_intCast, Rat.den_intCast, cutI_natAbs]
 refine ⟨Nat.lt_of_le_of_lt (Nat.div_le_self _ _) h.1, ?_⟩
 exact Nat.lt_of_lt_of_le (show 1 < B ^ 1 by decide) (Nat.pow_le_pow_right cO hk)
theorem cX.alloc {w W : World} {r : Rat} {e : Ending} (h : cX w r e W) (o : Obj) : cX w r e (W.alloc o) := by
 obtain ⟨v, he, hq, hb⟩ := h
 exact ⟨v, he, hq.below (cu W o) (Nat.le_refl _), hb.trans ((cu W o).mono hb.size)⟩
theorem cF.le {r : Rat} {k j : Nat} (h : cF r k) (hj : k ≤ j) : cF r j :=
 ⟨Nat.lt_of_lt_of_le h.1 (Nat.pow_le_pow_right cO hj), Nat.lt_of_lt_of_le h.2 (Nat.pow_le_pow_right cO hj)⟩
theorem floor_q (v : Value) (r : Rat) (k : Nat) (w : World) (h : cR w v r) (z : cF r k) (hk1 : 1 ≤ k) (hk : ((k + k + 1 : Nat) : Int) ≤ 1073741824) (hG : Gr w) :
 Calls Tryz.prog 41 #[v] w (cX w ((r.floor : Int) : Rat)) := by
 have HC := Lib.hid (fun W (hW : Below w.heap.size w W) => cut_q v r k W (h.below hW (Nat.le_refl _)) z (by omega))
 have HI := Lib.hid (fun W => int_q 1 (by decide) (by decide) W)
 have HM := Lib.hid (fun v1 v2 W (hv1 : cR W v1 ((cutI r : Int) : Rat)) (hv2 : cR W v2 ((1 : Int) : Rat)) (hW : Below w.heap.size w W) => minus_q v1 v2 ((cutI r : Int) : Rat) ((1 : Int) : Rat) k W hv1 hv2 (z.cut hk1) ((siz_int 1 (by decide) (by decide)).le hk1) hk (hG.below hW hG.size))
 have hfl := floor_cut r
 obtain ⟨a1, b1, p1, rfl, _⟩ := Num.form h
 clear h z hk
 by_cases hr : r.num.natAbs % r.den ≠ 0
 · have hr' : hasRest r = true := by unfold hasRest; simpa using hr
   by_cases hc : r.num < 0
   · rw [if_pos ⟨hc, hr⟩] at hfl
     rw [hfl, Rat.intCast_sub]
     rw [decide_eq_true hc, hr'] at HC
     rw [decide_eq_true hc]
     clear hfl hc hr hr'
     generalize ((cutI r : Int) : Rat) = t at *
     generalize ((1 : Int) : Rat) = t1 at *
     generalize t - t1 = tt at *
     go_enter Tryz.func41, Tryz.ntmps41
     go_wp2_with fail
     obtain ⟨W0, hW0, hb0, hx0, hz⟩ := box2w w (.bool true) (u a1) (u b1) (.pointer p1); rw [← hW0]; clear hW0; obtain ⟨f0, f1, f2, f3⟩ := hx0.cells; have HZ := Lib.hid hz; have HW0 := Lib.hid hb0; have hb0 := Below.refl W0.heap.size W0; clear hz hx0; have n1 : ¬ w.heap.size = w.heap.size + 1 := (by omega); have n2 : ¬ w.heap.size + 1 = w.heap.size := (by omega)
     refine (HC.out _ (cf HW0.out hb0)).mono ?_
     rintro e W1 ⟨nv, rfl, hnv, hb⟩
     (obtain ⟨_, _, _, _⟩ := cq (b := w.heap.size) hb (by assumption) (by assumption) (by assumption) (by assumption))
     have hb3 := cf hb0 hb
     (have hz := HZ.out.below hb3 (Nat.le_refl _); have zf := hz.frozen; obtain ⟨z0, z1, z2, z3⟩ := hz.cells; have zf0 := zf 0; have zf1 := zf 1; have zf2 := zf 2; have zf3 := zf 3; clear zf hz)
     obtain ⟨sn, an, bn, pn, rfl⟩ := hnv.form
     have HNV := Lib.hid hnv
     have HA := Lib.hid hb3
     clear hnv hb hb0 hb3 HC
     have q0 : w.heap.size < W1.heap.size := World.block_lt_of_cell? W1 ⟨w.heap.size, 0, none⟩ (by assumption)
     have q1 : w.heap.size + 1 < W1.heap.size := World.block_lt_of_cell? W1 ⟨w.heap.size + 1, 0, none⟩ (by assumption)
     clear f0 f1 f2 f3
     go_wp2_with fail
     obtain ⟨W2, hW, hb, ⟨g0, g1, g2, g3⟩⟩ := box1 W1 (.bool sn) (u an) (u bn) (.pointer pn); rw [← hW]; clear hW
     have hb2 := cf HA.out hb
     have HNV := Lib.hid (HNV.out.below hb (Nat.le_refl _))
     have q2 : ¬ W1.heap.size = w.heap.size + 1 := by omega
     have q3 : ¬ w.heap.size + 1 = W1.heap.size := by omega
     have q4 : W1.heap.size ≠ w.heap.size + 1 := by omega
     clear q0 q1 z0 z1 z2 z3 zf0 zf1 zf2 zf3 HA hb
     generalize W1.heap.size = bn1 at *
     go_region_held3 (fun w' => (w'.cell? ⟨bn1, 0, none⟩ = some (.bool sn) ∧ w'.cell? ⟨bn1, 1, none⟩ = some (u an) ∧ w'.cell? ⟨bn1, 2, none⟩ = some (u bn) ∧ w'.cell? ⟨bn1, 3, none⟩ = some (.pointer pn))) (go_keep) (first | ((with_reducible refine (HI.out _).mono ?_); rintro e W3 ⟨v1, rfl, hv1, hb⟩; have hb3 := cI hb2 hb; have HN3 := (HNV.out.below (Below.refl W2.heap.size W2).drew (Nat.le_refl _)).below hb (Nat.le_refl _); (have hh := cq (b := bn1) hb g0 g1 g2 g3; clear g0 g1 g2 g3; obtain ⟨g0, g1, g2, g3⟩ := hh); obtain ⟨_, _, _, _, rfl⟩ := hv1.form) | ((with_reducible refine (HM.out _ _ _ HN3 hv1 (cf HW0.out hb3)).mono ?_); rintro e W4 ⟨v2, rfl, hv2, hb'⟩; have hb4 := cf hb3 hb'; (have hh := cq (b := bn1) hb' g0 g1 g2 g3; clear g0 g1 g2 g3; obtain ⟨g0, g1, g2, g3⟩ := hh); have hv' := hv2; obtain ⟨sg9, a9, b9, p9, rfl⟩ := hv'.form; (have hz := HZ.out.below hb4 (Nat.le_refl _); have zf := hz.frozen; obtain ⟨z0, z1, z2, z3⟩ := hz.cells; have zf0 := zf 0; have zf1 := zf 1; have zf2 := zf 2; have zf3 := zf 3; clear zf hz)))
     have hz := HZ.out.below hb4 (Nat.le_refl _)
     have hfin := cX.stored (a0 := .bool sg9) (a1 := u a9) (a2 := u b9) (a3 := .pointer p9) hz hv2 (cf HW0.out hb4) (by omega)
     have HFin := Lib.hid hfin
     clear hfin hv2 hv' hb hb' hb4 hb3 hb2 hz
     go_wp2_with fail
     refine bodyPost_ret (v := .agg #[.bool sg9, u a9, u b9, .pointer p9]) (by simp [results, Tryz.results41, go_sem, z0, z1, z2, z3]) rfl ?_
     exact HFin.out
   · rw [if_neg (fun h => hc h.1)] at hfl
     rw [hfl]
     rw [decide_eq_false hc, hr'] at HC
     rw [decide_eq_false hc]
     clear hfl hc hr hr' HI HM
     generalize ((cutI r : Int) : Rat) = t at *
     go_enter Tryz.func41, Tryz.ntmps41
     go_wp2_with fail
     obtain ⟨W0, hW0, hb0, hx0, hz⟩ := box2w w (.bool false) (u a1) (u b1) (.pointer p1); rw [← hW0]; clear hW0; obtain ⟨f0, f1, f2, f3⟩ := hx0.cells; have HZ := Lib.hid hz; have HW0 := Lib.hid hb0; have hb0 := Below.refl W0.heap.size W0; clear hz hx0; have n1 : ¬ w.heap.size = w.heap.size + 1 := (by omega); have n2 : ¬ w.heap.size + 1 = w.heap.size := (by omega)
     refine (HC.out _ (cf HW0.out hb0)).mono ?_
     rintro e W1 ⟨nv, rfl, hnv, hb⟩
     (obtain ⟨_, _, _, _⟩ := cq (b := w.heap.size) hb (by assumption) (by assumption) (by assumption) (by assumption))
     have hb3 := cf hb0 hb
     (have hz := HZ.out.below hb3 (Nat.le_refl _); have zf := hz.frozen; obtain ⟨z0, z1, z2, z3⟩ := hz.cells; have zf0 := zf 0; have zf1 := zf 1; have zf2 := zf 2; have zf3 := zf 3; clear zf hz)
     obtain ⟨sn, an, bn, pn, rfl⟩ := hnv.form
     have HNV := Lib.hid hnv
     have HA := Lib.hid hb3
     clear hnv hb hb0 hb3 HC
     have q0 : w.heap.size < W1.heap.size := World.block_lt_of_cell? W1 ⟨w.heap.size, 0, none⟩ (by assumption)
     have q1 : w.heap.size + 1 < W1.heap.size := World.block_lt_of_cell? W1 ⟨w.heap.size + 1, 0, none⟩ (by assumption)
     clear f0 f1 f2 f3
     have hb2 := HA.out
     have hz := HZ.out.below hb2 (Nat.le_refl _)
     have hfin := (cX.stored (a0 := .bool sn) (a1 := u an) (a2 := u bn) (a3 := .pointer pn) hz HNV.out (cf HW0.out hb2) (by omega)).alloc (.cells #[.bool sn, u an, u bn, .pointer pn] 26)
     have HFin := Lib.hid hfin
     clear hfin hb2 hz HNV HA
     go_wp2_with fail
     refine bodyPost_ret (v := .agg #[.bool sn, u an, u bn, .pointer pn]) (by simp [results, Tryz.results41, go_sem, z0, z1, z2, z3, q1]) rfl ?_
     exact HFin.out
 · have hr' : hasRest r = false := by unfold hasRest; simpa using hr
   rw [if_neg (fun h => hr h.2)] at hfl
   rw [hfl]
   rw [hr'] at HC
   clear hfl hr hr' HI HM
   generalize ((cutI r : Int) : Rat) = t at *
   generalize decide (r.num < 0) = sg at *
   go_enter Tryz.func41, Tryz.ntmps41
   go_wp2_with fail
   obtain ⟨W0, hW0, hb0, hx0, hz⟩ := box2w w (.bool sg) (u a1) (u b1) (.pointer p1); rw [← hW0]; clear hW0; obtain ⟨f0, f1, f2, f3⟩ := hx0.cells; have HZ := Lib.hid hz; have HW0 := Lib.hid hb0; have hb0 := Below.refl W0.heap.size W0; clear hz hx0; have n1 : ¬ w.heap.size = w.heap.size + 1 := (by omega); have n2 : ¬ w.heap.size + 1 = w.heap.size := (by omega)
   refine (HC.out _ (cf HW0.out hb0)).mono ?_
   rintro e W1 ⟨nv, rfl, hnv, hb⟩
   (obtain ⟨_, _, _, _⟩ := cq (b := w.heap.size) hb (by assumption) (by assumption) (by assumption) (by assumption))
   have hb3 := cf hb0 hb
   (have hz := HZ.out.below hb3 (Nat.le_refl _); have zf := hz.frozen; obtain ⟨z0, z1, z2, z3⟩ := hz.cells; have zf0 := zf 0; have zf1 := zf 1; have zf2 := zf 2; have zf3 := zf 3; clear zf hz)
   obtain ⟨sn, an, bn, pn, rfl⟩ := hnv.form
   have HNV := Lib.hid hnv
   have HA := Lib.hid hb3
   clear hnv hb hb0 hb3 HC
   have q0 : w.heap.size < W1.heap.size := World.block_lt_of_cell? W1 ⟨w.heap.size, 0, none⟩ (by assumption)
   have q1 : w.heap.size + 1 < W1.heap.size := World.block_lt_of_cell? W1 ⟨w.heap.size + 1, 0, none⟩ (by assumption)
   clear f0 f1 f2 f3
   have hb2 := HA.out
   have hz := HZ.out.below hb2 (Nat.le_refl _)
   have hfin := (cX.stored (a0 := .bool sn) (a1 := u an) (a2 := u bn) (a3 := .pointer pn) hz HNV.out (cf HW0.out hb2) (by omega)).alloc (.cells #[.bool sn, u an, u bn, .pointer pn] 26)
   have HFin := Lib.hid hfin
   clear hfin hb2 hz HNV HA
   go_wp2_with fail
   refine bodyPost_ret (v := .agg #[.bool sn, u an, u bn, .pointer pn]) (by simp [results, Tryz.results41, go_sem, z0, z1, z2, z3, q1]) rfl ?_
   exact HFin.out
theorem ceil_q (v : Value) (r : Rat) (k : Nat) (w : World) (h : cR w v r) (z : cF r k) (hk1 : 1 ≤ k) (hk : ((k + k + 1 : Nat) : Int) ≤ 1073741824) (hG : Gr w) :
 Calls Tryz.prog 43 #[v] w (cX w ((r.ceil : Int) : Rat)) := by
 have HC := Lib.hid (fun W (hW : Below w.heap.size w W) => cut_q v r k W (h.below hW (Nat.le_refl _)) z (by omega))
 have HI := Lib.hid (fun W => int_q 1 (by decide) (by decide) W)
 have HM := Lib.hid (fun v1 v2 W (hv1 : cR W v1 ((cutI r : Int) : Rat)) (hv2 : cR W v2 ((1 : Int) : Rat)) (hW : Below w.heap.size w W) => plus_q v1 v2 ((cutI r : Int) : Rat) ((1 : Int) : Rat) k W hv1 hv2 (z.cut hk1) ((siz_int 1 (by decide) (by decide)).le hk1) hk (hG.below hW hG.size))
 have hfl := ceil_cut r
 obtain ⟨a1, b1, p1, rfl, _⟩ := Num.form h
 clear h z hk
 by_cases hr : r.num.natAbs % r.den ≠ 0
 · have hr' : hasRest r = true := by unfold hasRest; simpa using hr
   by_cases hc : ¬ r.num < 0
   · rw [if_pos ⟨hc, hr⟩] at hfl
     rw [hfl, Rat.intCast_add]
     rw [decide_eq_false hc, hr'] at HC
     rw [decide_eq_false hc]
     clear hfl hc hr hr'
     generalize ((cutI r : Int) : Rat) = t at *
     generalize ((1 : Int) : Rat) = t1 at *
     generalize t + t1 = tt at *
     go_enter Tryz.func43, Tryz.ntmps43
     go_wp2_with fail
     obtain ⟨W0, hW0, hb0, hx0, hz⟩ := box2w w (.bool false) (u a1) (u b1) (.pointer p1); rw [← hW0]; clear hW0; obtain ⟨f0, f1, f2, f3⟩ := hx0.cells; have HZ := Lib.hid hz; have HW0 := Lib.hid hb0; have hb0 := Below.refl W0.heap.size W0; clear hz hx0; have n1 : ¬ w.heap.size = w.heap.size + 1 := (by omega); have n2 : ¬ w.heap.size + 1 = w.heap.size := (by omega)
     refine (HC.out _ (cf HW0.out hb0)).mono ?_
     rintro e W1 ⟨nv, rfl, hnv, hb⟩
     (obtain ⟨_, _, _, _⟩ := cq (b := w.heap.size) hb (by assumption) (by assumption) (by assumption) (by assumption))
     have hb3 := cf hb0 hb
     (have hz := HZ.out.below hb3 (Nat.le_refl _); have zf := hz.frozen; obtain ⟨z0, z1, z2, z3⟩ := hz.cells; have zf0 := zf 0; have zf1 := zf 1; have zf2 := zf 2; have zf3 := zf 3; clear zf hz)
     obtain ⟨sn, an, bn, pn, rfl⟩ := hnv.form
     have HNV := Lib.hid hnv
     have HA := Lib.hid hb3
     clear hnv hb hb0 hb3 HC
     have q0 : w.heap.size < W1.heap.size := World.block_lt_of_cell? W1 ⟨w.heap.size, 0, none⟩ (by assumption)
     have q1 : w.heap.size + 1 < W1.heap.size := World.block_lt_of_cell? W1 ⟨w.heap.size + 1, 0, none⟩ (by assumption)
     clear f0 f1 f2 f3
     go_wp2_with fail
     obtain ⟨W2, hW, hb, ⟨g0, g1, g2, g3⟩⟩ := box1 W1 (.bool sn) (u an) (u bn) (.pointer pn); rw [← hW]; clear hW
     have hb2 := cf HA.out hb
     have HNV := Lib.hid (HNV.out.below hb (Nat.le_refl _))
     have q2 : ¬ W1.heap.size = w.heap.size + 1 := by omega
     have q3 : ¬ w.heap.size + 1 = W1.heap.size := by omega
     have q4 : W1.heap.size ≠ w.heap.size + 1 := by omega
     clear q0 q1 z0 z1 z2 z3 zf0 zf1 zf2 zf3 HA hb
     generalize W1.heap.size = bn1 at *
     go_region_held3 (fun w' => (w'.cell? ⟨bn1, 0, none⟩ = some (.bool sn) ∧ w'.cell? ⟨bn1, 1, none⟩ = some (u an) ∧ w'.cell? ⟨bn1, 2, none⟩ = some (u bn) ∧ w'.cell? ⟨bn1, 3, none⟩ = some (.pointer pn))) (go_keep) (first | ((with_reducible refine (HI.out _).mono ?_); rintro e W3 ⟨v1, rfl, hv1, hb⟩; have hb3 := cI hb2 hb; have HN3 := (HNV.out.below (Below.refl W2.heap.size W2).drew (Nat.le_refl _)).below hb (Nat.le_refl _); (have hh := cq (b := bn1) hb g0 g1 g2 g3; clear g0 g1 g2 g3; obtain ⟨g0, g1, g2, g3⟩ := hh); obtain ⟨_, _, _, _, rfl⟩ := hv1.form) | ((with_reducible refine (HM.out _ _ _ HN3 hv1 (cf HW0.out hb3)).mono ?_); rintro e W4 ⟨v2, rfl, hv2, hb'⟩; have hb4 := cf hb3 hb'; (have hh := cq (b := bn1) hb' g0 g1 g2 g3; clear g0 g1 g2 g3; obtain ⟨g0, g1, g2, g3⟩ := hh); have hv' := hv2; obtain ⟨sg9, a9, b9, p9, rfl⟩ := hv'.form; (have hz := HZ.out.below hb4 (Nat.le_refl _); have zf := hz.frozen; obtain ⟨z0, z1, z2, z3⟩ := hz.cells; have zf0 := zf 0; have zf1 := zf 1; have zf2 := zf 2; have zf3 := zf 3; clear zf hz)))
     have hz := HZ.out.below hb4 (Nat.le_refl _)
     have hfin := cX.stored (a0 := .bool sg9) (a1 := u a9) (a2 := u b9) (a3 := .pointer p9) hz hv2 (cf HW0.out hb4) (by omega)
     have HFin := Lib.hid hfin
     clear hfin hv2 hv' hb hb' hb4 hb3 hb2 hz
     go_wp2_with fail
     refine bodyPost_ret (v := .agg #[.bool sg9, u a9, u b9, .pointer p9]) (by simp [results, Tryz.results43, go_sem, z0, z1, z2, z3]) rfl ?_
     exact HFin.out
   · rw [if_neg (fun h => hc h.1)] at hfl
     rw [hfl]
     rw [decide_eq_true (Decidable.not_not.1 hc), hr'] at HC
     rw [decide_eq_true (Decidable.not_not.1 hc)]
     clear hfl hc hr hr' HI HM
     generalize ((cutI r : Int) : Rat) = t at *
     go_enter Tryz.func43, Tryz.ntmps43
     go_wp2_with fail
     obtain ⟨W0, hW0, hb0, hx0, hz⟩ := box2w w (.bool true) (u a1) (u b1) (.pointer p1); rw [← hW0]; clear hW0; obtain ⟨f0, f1, f2, f3⟩ := hx0.cells; have HZ := Lib.hid hz; have HW0 := Lib.hid hb0; have hb0 := Below.refl W0.heap.size W0; clear hz hx0; have n1 : ¬ w.heap.size = w.heap.size + 1 := (by omega); have n2 : ¬ w.heap.size + 1 = w.heap.size := (by omega)
     refine (HC.out _ (cf HW0.out hb0)).mono ?_
     rintro e W1 ⟨nv, rfl, hnv, hb⟩
     (obtain ⟨_, _, _, _⟩ := cq (b := w.heap.size) hb (by assumption) (by assumption) (by assumption) (by assumption))
     have hb3 := cf hb0 hb
     (have hz := HZ.out.below hb3 (Nat.le_refl _); have zf := hz.frozen; obtain ⟨z0, z1, z2, z3⟩ := hz.cells; have zf0 := zf 0; have zf1 := zf 1; have zf2 := zf 2; have zf3 := zf 3; clear zf hz)
     obtain ⟨sn, an, bn, pn, rfl⟩ := hnv.form
     have HNV := Lib.hid hnv
     have HA := Lib.hid hb3
     clear hnv hb hb0 hb3 HC
     have q0 : w.heap.size < W1.heap.size := World.block_lt_of_cell? W1 ⟨w.heap.size, 0, none⟩ (by assumption)
     have q1 : w.heap.size + 1 < W1.heap.size := World.block_lt_of_cell? W1 ⟨w.heap.size + 1, 0, none⟩ (by assumption)
     clear f0 f1 f2 f3
     have hb2 := HA.out
     have hz := HZ.out.below hb2 (Nat.le_refl _)
     have hfin := (cX.stored (a0 := .bool sn) (a1 := u an) (a2 := u bn) (a3 := .pointer pn) hz HNV.out (cf HW0.out hb2) (by omega)).alloc (.cells #[.bool sn, u an, u bn, .pointer pn] 26)
     have HFin := Lib.hid hfin
     clear hfin hb2 hz HNV HA
     go_wp2_with fail
     refine bodyPost_ret (v := .agg #[.bool sn, u an, u bn, .pointer pn]) (by simp [results, Tryz.results43, go_sem, z0, z1, z2, z3, q1]) rfl ?_
     exact HFin.out
 · have hr' : hasRest r = false := by unfold hasRest; simpa using hr
   rw [if_neg (fun h => hr h.2)] at hfl
   rw [hfl]
   rw [hr'] at HC
   clear hfl hr hr' HI HM
   generalize ((cutI r : Int) : Rat) = t at *
   generalize decide (r.num < 0) = sg at *
   go_enter Tryz.func43, Tryz.ntmps43
   go_wp2_with fail
   obtain ⟨W0, hW0, hb0, hx0, hz⟩ := box2w w (.bool sg) (u a1) (u b1) (.pointer p1); rw [← hW0]; clear hW0; obtain ⟨f0, f1, f2, f3⟩ := hx0.cells; have HZ := Lib.hid hz; have HW0 := Lib.hid hb0; have hb0 := Below.refl W0.heap.size W0; clear hz hx0; have n1 : ¬ w.heap.size = w.heap.size + 1 := (by omega); have n2 : ¬ w.heap.size + 1 = w.heap.size := (by omega)
   refine (HC.out _ (cf HW0.out hb0)).mono ?_
   rintro e W1 ⟨nv, rfl, hnv, hb⟩
   (obtain ⟨_, _, _, _⟩ := cq (b := w.heap.size) hb (by assumption) (by assumption) (by assumption) (by assumption))
   have hb3 := cf hb0 hb
   (have hz := HZ.out.below hb3 (Nat.le_refl _); have zf := hz.frozen; obtain ⟨z0, z1, z2, z3⟩ := hz.cells; have zf0 := zf 0; have zf1 := zf 1; have zf2 := zf 2; have zf3 := zf 3; clear zf hz)
   obtain ⟨sn, an, bn, pn, rfl⟩ := hnv.form
   have HNV := Lib.hid hnv
   have HA := Lib.hid hb3
   clear hnv hb hb0 hb3 HC
   have q0 : w.heap.size < W1.heap.size := World.block_lt_of_cell? W1 ⟨w.heap.size, 0, none⟩ (by assumption)
   have q1 : w.heap.size + 1 < W1.heap.size := World.block_lt_of_cell? W1 ⟨w.heap.size + 1, 0, none⟩ (by assumption)
   clear f0 f1 f2 f3
   have hb2 := HA.out
   have hz := HZ.out.below hb2 (Nat.le_refl _)
   have hfin := (cX.stored (a0 := .bool sn) (a1 := u an) (a2 := u bn) (a3 := .pointer pn) hz HNV.out (cf HW0.out hb2) (by omega)).alloc (.cells #[.bool sn, u an, u bn, .pointer pn] 26)
   have HFin := Lib.hid hfin
   clear hfin hb2 hz HNV HA
   go_wp2_with fail
   refine bodyPost_ret (v := .agg #[.bool sn, u an, u bn, .pointer pn]) (by simp [results, Tryz.results43, go_sem, z0, z1, z2, z3, q1]) rfl ?_
   exact HFin.out
open Go Go.RowKit Go.Proofs Lim
theorem bapp (a b : List UInt8) : ((⟨a.toArray⟩ : ByteArray) ++ ⟨b.toArray⟩) = ⟨(a ++ b).toArray⟩ := by
 apply ByteArray.ext
 rw [ByteArray.data_append]
 simp
theorem bapp1 (c : UInt8) (b : List UInt8) : ((⟨#[c]⟩ : ByteArray) ++ ⟨b.toArray⟩) = ⟨(c :: b).toArray⟩ := bapp [c] b
theorem bapp2 (a : List UInt8) (c : UInt8) : ((⟨a.toArray⟩ : ByteArray) ++ ⟨#[c]⟩) = ⟨(a ++ [c]).toArray⟩ := bapp a [c]
theorem ntext_len {n k : Nat} (h : n < B ^ k) : (cz n).length ≤ 20 * k + 1 := by
 unfold cz
 split
 · simp
 · rw [List.length_reverse, List.length_map]
   have := digits_len_le h rfl
   omega
theorem co.not_one {w : World} {v : Value} {n : Nat} (h : co w v n) (h0 : 0 < n) (h1 : n ≠ 1) :
 (∃ b o c, v = .slice (some ⟨b, o, none⟩) 1 c ∧ w.cell? ⟨b, o, none⟩ = some (u n)) ∨ (∃ ao l c, v = .slice ao l c ∧ l ≠ 1) := by
 rcases Nat.lt_or_ge n B with hB | hB
 · obtain ⟨b, o, c, rfl, hc⟩ := h.limb h0 hB
   exact .inl ⟨b, o, c, rfl, hc⟩
 · obtain ⟨ao, l, c, rfl, _, _, hl⟩ := h.form
   exact .inr ⟨ao, l, c, rfl, by have := hl.2 hB; omega⟩
theorem text_pos0 (v : Value) (N k : Nat) (w : World) (a1 b1 : Nat) (p1 : Option Addr) (hv : v = .agg #[.bool false, u a1, u b1, .pointer p1])
 (HP : Hid (∀ W, Below w.heap.size w W → Calls Tryz.prog 84 #[v] W (PartsPost W N 1))) (HT1 : Hid (∀ x W, co W x N → Calls Tryz.prog 85 #[x] W (ji W (cz N))))
 (HT2 : Hid (∀ x W, co W x 1 → Calls Tryz.prog 85 #[x] W (ji W (cz 1)))) (hl : (cz N).length ≤ 21474836481) (hl2 : (cz 1).length ≤ 21474836481) :
 Calls Tryz.prog 14 #[v] w (ji w (cz N)) := by
 subst hv
 clear hl hl2
 generalize cz N = TN at *
 go_enter Tryz.func14, Tryz.ntmps14
 go_wp2_with fail
 obtain ⟨W0, hW0, hb0, ⟨f0, f1, f2, f3⟩⟩ := box1 w (.bool false) (u a1) (u b1) (.pointer p1); rw [← hW0]; clear hW0
 refine (HP.out _ hb0).mono ?_
 rintro e W1 ⟨x, y, rfl, hx, hy, hb⟩
 (have hh := cq (b := w.heap.size) hb f0 f1 f2 f3; clear f0 f1 f2 f3; obtain ⟨f0, f1, f2, f3⟩ := hh)
 obtain ⟨ya, yo, yc, rfl, hyc⟩ := hy.limb (by decide) (by decide)
 have HA := Lib.hid (cf hb0 hb)
 have HX := Lib.hid hx
 have HY := Lib.hid hy
 obtain ⟨xa, xl, xc, rfl, _⟩ := hx.form
 clear hb hb0 hx hy HP
 go_wp2_with fail
 refine (HT1.out _ _ HX.out).mono ?_
 rintro e W2 ⟨rfl, hb⟩
 (have hh := cq (b := w.heap.size) hb f0 f1 f2 f3; clear f0 f1 f2 f3; obtain ⟨f0, f1, f2, f3⟩ := hh)
 have hyc2 : W2.cell? ⟨ya, yo, none⟩ = some (.int .u64 1) := (hb.cell (p := ⟨ya, yo, none⟩) (World.block_lt_of_cell? W1 _ hyc)).trans hyc
 have HA2 := Lib.hid (cf HA.out hb)
 have HY2 := Lib.hid (HY.out.below hb (Nat.le_refl _))
 clear hb HX HT1 hyc
 go_wp2_with fail
 go_ret
 refine ⟨?_, HA2.out⟩
 rfl
theorem text_pos1 (v : Value) (N k : Nat) (D : Nat) (hD0 : 0 < D) (hD1 : D ≠ 1) (w : World) (a1 b1 : Nat) (p1 : Option Addr) (hv : v = .agg #[.bool false, u a1, u b1, .pointer p1])
 (HP : Hid (∀ W, Below w.heap.size w W → Calls Tryz.prog 84 #[v] W (PartsPost W N D))) (HT1 : Hid (∀ x W, co W x N → Calls Tryz.prog 85 #[x] W (ji W (cz N))))
 (HT2 : Hid (∀ x W, co W x D → Calls Tryz.prog 85 #[x] W (ji W (cz D)))) (hl : (cz N).length ≤ 21474836481) (hl2 : (cz D).length ≤ 21474836481) :
 Calls Tryz.prog 14 #[v] w (ji w ((cz N ++ 47 :: cz D))) := by
 subst hv
 have l2 : ¬ 9223372036854775807 < (cz N).length + 1 := by omega
 have l3 : ¬ 9223372036854775807 < (cz N).length + 1 + (cz D).length := by omega
 clear hl hl2
 generalize cz N = TN at *
 generalize cz D = TD at *
 go_enter Tryz.func14, Tryz.ntmps14
 go_wp2_with fail
 obtain ⟨W0, hW0, hb0, ⟨f0, f1, f2, f3⟩⟩ := box1 w (.bool false) (u a1) (u b1) (.pointer p1); rw [← hW0]; clear hW0
 refine (HP.out _ hb0).mono ?_
 rintro e W1 ⟨x, y, rfl, hx, hy, hb⟩
 (have hh := cq (b := w.heap.size) hb f0 f1 f2 f3; clear f0 f1 f2 f3; obtain ⟨f0, f1, f2, f3⟩ := hh)
 rcases hy.not_one hD0 hD1 with ⟨ya, yo, yc, rfl, hyc⟩ | ⟨ao, yl, yc, rfl, hy1⟩
 · have HA := Lib.hid (cf hb0 hb)
   have HX := Lib.hid hx
   have HY := Lib.hid hy
   obtain ⟨xa, xl, xc, rfl, _⟩ := hx.form
   have hD : (((D : Nat) : Int) == 1) = false := by rw [beq_eq_false_iff_ne]; omega
   clear hb hb0 hx hy HP hD0 hD1
   go_wp2_with fail
   refine (HT1.out _ _ HX.out).mono ?_
   rintro e W2 ⟨rfl, hb⟩
   (have hh := cq (b := w.heap.size) hb f0 f1 f2 f3; clear f0 f1 f2 f3; obtain ⟨f0, f1, f2, f3⟩ := hh)
   have hyc2 : W2.cell? ⟨ya, yo, none⟩ = some (u D) := (hb.cell (p := ⟨ya, yo, none⟩) (World.block_lt_of_cell? W1 _ hyc)).trans hyc
   have HA2 := Lib.hid (cf HA.out hb)
   have HY2 := Lib.hid (HY.out.below hb (Nat.le_refl _))
   clear hb HX HT1 hyc
   go_wp2_with fail
   refine (HT2.out _ _ HY2.out).mono ?_
   rintro e W3 ⟨rfl, hb⟩
   have HA3 := Lib.hid (cf HA2.out hb)
   clear hb HT2
   go_wp2_with fail
   go_ret
   refine ⟨?_, HA3.out⟩
   simp [bapp, bapp1, bapp2]
 · have HA := Lib.hid (cf hb0 hb)
   have HX := Lib.hid hx
   have HY := Lib.hid hy
   obtain ⟨xa, xl, xc, rfl, _⟩ := hx.form
   have hyl : (((yl : Nat) : Int) == 1) = false := by rw [beq_eq_false_iff_ne]; omega
   clear hb hb0 hx hy HP hD0 hD1 hy1
   go_wp2_with fail
   refine (HT1.out _ _ HX.out).mono ?_
   rintro e W2 ⟨rfl, hb⟩
   (have hh := cq (b := w.heap.size) hb f0 f1 f2 f3; clear f0 f1 f2 f3; obtain ⟨f0, f1, f2, f3⟩ := hh)
   have HA2 := Lib.hid (cf HA.out hb)
   have HY2 := Lib.hid (HY.out.below hb (Nat.le_refl _))
   clear hb HX HT1
   go_wp2_with fail
   refine (HT2.out _ _ HY2.out).mono ?_
   rintro e W3 ⟨rfl, hb⟩
   have HA3 := Lib.hid (cf HA2.out hb)
   clear hb HT2
   go_wp2_with fail
   go_ret
   refine ⟨?_, HA3.out⟩
   simp [bapp, bapp1, bapp2]
theorem text_neg0 (v : Value) (N k : Nat) (w : World) (a1 b1 : Nat) (p1 : Option Addr) (hv : v = .agg #[.bool true, u a1, u b1, .pointer p1])
 (HP : Hid (∀ W, Below w.heap.size w W → Calls Tryz.prog 84 #[v] W (PartsPost W N 1))) (HT1 : Hid (∀ x W, co W x N → Calls Tryz.prog 85 #[x] W (ji W (cz N))))
 (HT2 : Hid (∀ x W, co W x 1 → Calls Tryz.prog 85 #[x] W (ji W (cz 1)))) (hl : (cz N).length ≤ 21474836481) (hl2 : (cz 1).length ≤ 21474836481) :
 Calls Tryz.prog 14 #[v] w (ji w (45 :: cz N)) := by
 subst hv
 have l1 : ¬ 9223372036854775807 < 1 + (cz N).length := by omega
 clear hl hl2
 generalize cz N = TN at *
 go_enter Tryz.func14, Tryz.ntmps14
 go_wp2_with fail
 obtain ⟨W0, hW0, hb0, ⟨f0, f1, f2, f3⟩⟩ := box1 w (.bool true) (u a1) (u b1) (.pointer p1); rw [← hW0]; clear hW0
 refine (HP.out _ hb0).mono ?_
 rintro e W1 ⟨x, y, rfl, hx, hy, hb⟩
 (have hh := cq (b := w.heap.size) hb f0 f1 f2 f3; clear f0 f1 f2 f3; obtain ⟨f0, f1, f2, f3⟩ := hh)
 obtain ⟨ya, yo, yc, rfl, hyc⟩ := hy.limb (by decide) (by decide)
 have HA := Lib.hid (cf hb0 hb)
 have HX := Lib.hid hx
 have HY := Lib.hid hy
 obtain ⟨xa, xl, xc, rfl, _⟩ := hx.form
 clear hb hb0 hx hy HP
 go_wp2_with fail
 refine (HT1.out _ _ HX.out).mono ?_
 rintro e W2 ⟨rfl, hb⟩
 (have hh := cq (b := w.heap.size) hb f0 f1 f2 f3; clear f0 f1 f2 f3; obtain ⟨f0, f1, f2, f3⟩ := hh)
 have hyc2 : W2.cell? ⟨ya, yo, none⟩ = some (.int .u64 1) := (hb.cell (p := ⟨ya, yo, none⟩) (World.block_lt_of_cell? W1 _ hyc)).trans hyc
 have HA2 := Lib.hid (cf HA.out hb)
 have HY2 := Lib.hid (HY.out.below hb (Nat.le_refl _))
 clear hb HX HT1 hyc
 go_wp2_with fail
 go_ret
 refine ⟨?_, HA2.out⟩
 simp [bapp, bapp1, bapp2]
theorem text_neg1 (v : Value) (N k : Nat) (D : Nat) (hD0 : 0 < D) (hD1 : D ≠ 1) (w : World) (a1 b1 : Nat) (p1 : Option Addr) (hv : v = .agg #[.bool true, u a1, u b1, .pointer p1])
 (HP : Hid (∀ W, Below w.heap.size w W → Calls Tryz.prog 84 #[v] W (PartsPost W N D))) (HT1 : Hid (∀ x W, co W x N → Calls Tryz.prog 85 #[x] W (ji W (cz N))))
 (HT2 : Hid (∀ x W, co W x D → Calls Tryz.prog 85 #[x] W (ji W (cz D)))) (hl : (cz N).length ≤ 21474836481) (hl2 : (cz D).length ≤ 21474836481) :
 Calls Tryz.prog 14 #[v] w (ji w (45 :: (cz N ++ 47 :: cz D))) := by
 subst hv
 have l1 : ¬ 9223372036854775807 < 1 + (cz N).length := by omega
 have l2 : ¬ 9223372036854775807 < 1 + (cz N).length + 1 := by omega
 have l3 : ¬ 9223372036854775807 < 1 + (cz N).length + 1 + (cz D).length := by omega
 have l4 : ¬ 9223372036854775807 < (cz N).length + 1 + 1 := by omega
 have l5 : ¬ 9223372036854775807 < (cz N).length + 1 + 1 + (cz D).length := by omega
 clear hl hl2
 generalize cz N = TN at *
 generalize cz D = TD at *
 go_enter Tryz.func14, Tryz.ntmps14
 go_wp2_with fail
 obtain ⟨W0, hW0, hb0, ⟨f0, f1, f2, f3⟩⟩ := box1 w (.bool true) (u a1) (u b1) (.pointer p1); rw [← hW0]; clear hW0
 refine (HP.out _ hb0).mono ?_
 rintro e W1 ⟨x, y, rfl, hx, hy, hb⟩
 (have hh := cq (b := w.heap.size) hb f0 f1 f2 f3; clear f0 f1 f2 f3; obtain ⟨f0, f1, f2, f3⟩ := hh)
 rcases hy.not_one hD0 hD1 with ⟨ya, yo, yc, rfl, hyc⟩ | ⟨ao, yl, yc, rfl, hy1⟩
 · have HA := Lib.hid (cf hb0 hb)
   have HX := Lib.hid hx
   have HY := Lib.hid hy
   obtain ⟨xa, xl, xc, rfl, _⟩ := hx.form
   have hD : (((D : Nat) : Int) == 1) = false := by rw [beq_eq_false_iff_ne]; omega
   clear hb hb0 hx hy HP hD0 hD1
   go_wp2_with fail
   refine (HT1.out _ _ HX.out).mono ?_
   rintro e W2 ⟨rfl, hb⟩
   (have hh := cq (b := w.heap.size) hb f0 f1 f2 f3; clear f0 f1 f2 f3; obtain ⟨f0, f1, f2, f3⟩ := hh)
   have hyc2 : W2.cell? ⟨ya, yo, none⟩ = some (u D) := (hb.cell (p := ⟨ya, yo, none⟩) (World.block_lt_of_cell? W1 _ hyc)).trans hyc
   have HA2 := Lib.hid (cf HA.out hb)
   have HY2 := Lib.hid (HY.out.below hb (Nat.le_refl _))
   clear hb HX HT1 hyc
   go_wp2_with fail
   refine (HT2.out _ _ HY2.out).mono ?_
   rintro e W3 ⟨rfl, hb⟩
   have HA3 := Lib.hid (cf HA2.out hb)
   clear hb HT2
   go_wp2_with fail
   go_ret
   refine ⟨?_, HA3.out⟩
   simp [bapp, bapp1, bapp2]
 · have HA := Lib.hid (cf hb0 hb)
   have HX := Lib.hid hx
   have HY := Lib.hid hy
   obtain ⟨xa, xl, xc, rfl, _⟩ := hx.form
   have hyl : (((yl : Nat) : Int) == 1) = false := by rw [beq_eq_false_iff_ne]; omega
   clear hb hb0 hx hy HP hD0 hD1 hy1
   go_wp2_with fail
   refine (HT1.out _ _ HX.out).mono ?_
   rintro e W2 ⟨rfl, hb⟩
   (have hh := cq (b := w.heap.size) hb f0 f1 f2 f3; clear f0 f1 f2 f3; obtain ⟨f0, f1, f2, f3⟩ := hh)
   have HA2 := Lib.hid (cf HA.out hb)
   have HY2 := Lib.hid (HY.out.below hb (Nat.le_refl _))
   clear hb HX HT1
   go_wp2_with fail
   refine (HT2.out _ _ HY2.out).mono ?_
   rintro e W3 ⟨rfl, hb⟩
   have HA3 := Lib.hid (cf HA2.out hb)
   clear hb HT2
   go_wp2_with fail
   go_ret
   refine ⟨?_, HA3.out⟩
   simp [bapp, bapp1, bapp2]
theorem text_q (v : Value) (r : Rat) (k : Nat) (w : World) (h : cR w v r) (z : cF r k) (hk : (k : Int) ≤ 1073741824) :
 Calls Tryz.prog 14 #[v] w (ji w (qtext r)) := by
 have HP := Lib.hid (fun W (hW : Below w.heap.size w W) => parts_any v (decide (r.num < 0)) r.num.natAbs r.den W (Num.below h hW (Nat.le_refl _)))
 have HT1 := Lib.hid (fun x W (hx : co W x r.num.natAbs) => text_any x r.num.natAbs k W hx z.1 hk)
 have HT2 := Lib.hid (fun x W (hx : co W x r.den) => text_any x r.den k W hx z.2 hk)
 have hq : qtext r = (if r.num < 0 then [45] else []) ++ cz r.num.natAbs ++ (if r.den = 1 then [] else 47 :: cz r.den) := rfl
 have hl1 := ntext_len z.1
 have hl2 := ntext_len z.2
 have hl1 : (cz r.num.natAbs).length ≤ 21474836481 := by omega
 have hl2 : (cz r.den).length ≤ 21474836481 := by omega
 obtain ⟨a1, b1, p1, hv, _⟩ := Num.form h
 have hd0 := r.den_pos
 by_cases hd : r.den = 1
 · by_cases hn : r.num < 0
   · rw [if_pos hd, if_pos hn, List.append_nil] at hq
     rw [hd] at HP HT2 hl2
     rw [hq]
     exact text_neg0 v _ k w a1 b1 p1 (by rw [hv, decide_eq_true hn]) HP HT1 HT2 hl1 hl2
   · rw [if_pos hd, if_neg hn, List.append_nil, List.nil_append] at hq
     rw [hd] at HP HT2 hl2
     rw [hq]
     exact text_pos0 v _ k w a1 b1 p1 (by rw [hv, decide_eq_false hn]) HP HT1 HT2 hl1 hl2
 · by_cases hn : r.num < 0
   · rw [if_neg hd, if_pos hn, List.append_assoc] at hq
     rw [hq]
     exact text_neg1 v _ k _ hd0 hd w a1 b1 p1 (by rw [hv, decide_eq_true hn]) HP HT1 HT2 hl1 hl2
   · rw [if_neg hd, if_neg hn, List.nil_append] at hq
     rw [hq]
     exact text_pos1 v _ k _ hd0 hd w a1 b1 p1 (by rw [hv, decide_eq_false hn]) HP HT1 HT2 hl1 hl2
open Go Go.RowKit Go.Proofs Lim
theorem parse_group (l : List UInt8) (acc k : Nat) (ha : acc < 10 ^ k) (hk : k + l.length ≤ 19) :
 Lib.parseUintM (2 ^ 64 - 1) acc l = if l.all isDig then .ok (l.foldl (fun a c => 10 * a + (c.toNat - 48)) acc) else Lib.parseUintB 64 [] := by
 induction l generalizing acc k with
 | nil => simp [Lib.parseUintM]
 | cons c l ih =>
  rw [Lib.parseUintM]
  simp only [List.length_cons] at hk
  by_cases hc : 48 ≤ c.toNat ∧ c.toNat ≤ 57
  · have hd : isDig c = true := by unfold isDig; simp [hc]
    have h1 : 10 ^ k ≤ 10 ^ 18 := Nat.pow_le_pow_right (by omega) (by omega)
    have h2 : acc * 10 + (c.toNat - 48) < 10 ^ (k + 1) := by rw [Nat.pow_succ]; omega
    have h3 : 10 ^ (k + 1) ≤ 10 ^ 19 := Nat.pow_le_pow_right (by omega) (by omega)
    rw [if_pos hc, if_neg (by omega), if_neg (by omega), ih _ (k + 1) h2 (by omega)]
    simp only [List.all_cons, hd, Bool.true_and, List.foldl_cons]
    rw [Nat.mul_comm acc 10]
  · have hd : isDig c = false := by unfold isDig; simp; omega
    rw [if_neg hc]
    simp only [List.all_cons, hd, Bool.false_and]
    rfl
theorem str_size_le (l : List UInt8) {a b : Nat} (h : l.length ≤ a) (hab : a ≤ b) : (⟨l.toArray⟩ : ByteArray).size ≤ b := by
 have : (⟨l.toArray⟩ : ByteArray).size = l.length := by simp [ByteArray.size]
 omega
theorem parse_ok (l : List UInt8) (h0 : l ≠ []) (h19 : l.length ≤ 19) (hd : l.all isDig = true) (w : World) :
 Calls Tryz.prog 116 #[str l, .int .i64 10, .int .i64 64] w (fun e w' => e = .returned (.tuple #[u (cU l), .nilIface]) ∧ Below w.heap.size w w') := by
 have h : Lib.parseUintB 64 (⟨l.toArray⟩ : ByteArray).data.toList = .ok (cU l) := by
  unfold Lib.parseUintB
  rw [if_neg (by simpa using h0), parse_group _ 0 0 (by decide) (by simpa using h19)]
  simp only [hd, if_true]
  rfl
 refine (Tryz.strconv_ParseUint_10_at64_ok ⟨l.toArray⟩ (str_size_le l h19 (by omega)) (cU l) h w).mono ?_
 rintro e w' ⟨rfl, hw⟩
 refine ⟨rfl, ?_⟩
 rcases hw with rfl | rfl
 · exact Below.refl _ _
 · exact Lib.bytesWorld_below _ _ _
theorem parse_bad (l : List UInt8) (h0 : l ≠ []) (h19 : l.length ≤ 19) (hd : l.all isDig = false) (w : World) (hG : Gr w) :
 Calls Tryz.prog 116 #[str l, .int .i64 10, .int .i64 64] w (fun e w' => ∃ t p, e = .returned (.tuple #[.int .u64 0, .iface t (.pointer (some p))]) ∧ Below w.heap.size w w') := by
 have h : Lib.parseUintB 64 (⟨l.toArray⟩ : ByteArray).data.toList = Lib.parseUintB 64 [] := by
  unfold Lib.parseUintB
  rw [if_neg (by simpa using h0), parse_group _ 0 0 (by decide) (by simpa using h19)]
  simp only [hd]
  rfl
 obtain ⟨tp, p, hs⟩ := hG.syn
 refine (Tryz.strconv_ParseUint_10_at64_syntax ⟨l.toArray⟩ (str_size_le l h19 (by omega)) h (.iface tp p) w hs (.inr ⟨tp, p, rfl⟩)).mono ?_
 rintro e w' ⟨N, rfl, _, _, hb⟩
 exact ⟨_, _, rfl, hb⟩
def strLen : Value → Nat
 | .string s => s.size
 | _ => 0
def ReadNatPost (w : World) (l : List UInt8) (e : Ending) (w' : World) : Prop :=
 (okNat l = true ∧ ∃ v, e = .returned (.tuple #[v, .bool true]) ∧ co w' v (cU l) ∧ Below w.heap.size w w') ∨
 (okNat l = false ∧ e = .returned (.tuple #[.slice none 0 0, .bool false]) ∧ Below w.heap.size w w')
theorem extract_take (l : List UInt8) (n : Nat) : (⟨l.toArray⟩ : ByteArray).extract 0 n = ⟨(l.take n).toArray⟩ := by
 apply ByteArray.ext
 simp [ByteArray.data_extract]
theorem extract_drop (l : List UInt8) (n : Nat) : (⟨l.toArray⟩ : ByteArray).extract n l.length = ⟨(l.drop n).toArray⟩ := by
 apply ByteArray.ext
 simp [ByteArray.data_extract]
 rw [List.take_of_length_le (by simp)]
def ReadRel (w : World) (l : List UInt8) (s x : Value) (wr : World) : Prop :=
 ∃ pre rest, s = str rest ∧ l = pre ++ rest ∧ pre.all isDig = true ∧ co wr x (cU pre) ∧ (pre = [] ∨ rest.length % 19 = 0) ∧ Below w.heap.size w wr
theorem readNatural_any (l : List UInt8) (w : World) (hl : l.length ≤ 100000) (hG : Gr w) : Calls Tryz.prog 77 #[str l] w (ReadNatPost w l) := by
 have HG := Lib.hid hG
 clear hG
 by_cases h0 : l = []
 · subst h0
   have hk : okNat [] = false := rfl
   go_enter Tryz.func77, Tryz.ntmps77
   go_wp2_with fail
   refine bodyPost_ret (v := .tuple #[.slice none 0 0, .bool false]) (by simp [results, Tryz.results77, go_sem]) rfl ?_
   exact .inr ⟨hk, rfl, Below.refl _ _⟩
 · have e0 : l.isEmpty = false := by cases l <;> simp_all
   have H0 := Lib.hid h0
   clear h0
   go_enter Tryz.func77, Tryz.ntmps77
   go_wp2_with fail
   go_loopw [0, 4] (fun s x wr => Hid (ReadRel w l s x wr)) (fun s _ _ => strLen s)
   case atStart => exact ⟨[], l, rfl, rfl, rfl, co.zero w, .inl rfl, Below.refl _ _⟩
   case round =>
    obtain ⟨pre, rest, rfl, hpre, hd, hx, h19, hb⟩ := hrel.out
    clear hrel
    by_cases hr : rest = []
    · subst hr
      obtain ⟨xa, xl, xc, rfl, _⟩ := hx.form
      have hfin : okNat l = true ∧ co wr (.slice xa xl xc) (cU l) := by
       rw [List.append_nil] at hpre
       subst hpre
       refine ⟨?_, hx⟩
       unfold okNat
       rw [hd, e0]
       rfl
      have HFin := Lib.hid hfin
      have HB := Lib.hid hb
      clear hfin hb hx h19 hpre hd
      go_wp2_with fail
      refine bodyPost_ret (v := .tuple #[.slice xa xl xc, .bool true]) (by simp [results, Tryz.results77, go_sem]) rfl ?_
      exact .inl ⟨HFin.out.1, _, rfl, HFin.out.2, HB.out⟩
    · have e1 : rest.isEmpty = false := by cases rest <;> simp_all
      have hm0 : 0 < rest.length := by cases rest <;> simp_all
      obtain ⟨q, hq⟩ : ∃ q, q = (rest.length - 1) % 19 := ⟨_, rfl⟩
      have hq19 : q < 19 := by omega
      have hqm : q + 1 ≤ rest.length := by have := Nat.mod_le (rest.length - 1) 19; omega
      have g1 : ((rest.length : Nat) : Int) - 1 = ((rest.length - 1 : Nat) : Int) := by omega
      have g2 : Int.tmod ((rest.length : Nat) - 1 : Int) 19 = (q : Int) := by rw [g1, Int.tmod_eq_emod_of_nonneg (by omega)]; omega
      have g3 : (((rest.length : Nat) : Int) - 1) % 19 = (q : Int) := by omega
      have hxt := extract_take rest (q + 1)
      have hxd := extract_drop rest (q + 1)
      have hl1 : (rest.length : Int) ≤ 100000 := by
       have := congrArg List.length hpre
       rw [List.length_append] at this
       omega
      have hqmi : (q : Int) + 1 ≤ (rest.length : Int) := by omega
      have HPre := Lib.hid hpre
      have HD := Lib.hid hd
      have HX := Lib.hid hx
      have H19 := Lib.hid h19
      have HB := Lib.hid hb
      have HQ := Lib.hid hq
      obtain ⟨xa, xl, xc, rfl, _⟩ := hx.form
      clear hpre hd hx h19 hb hq g1 hr
      go_wp2_with fail
      by_cases hg : (rest.take (q + 1)).all isDig = true
      · refine (parse_ok (rest.take (q + 1)) (by intro e; have := congrArg List.length e; rw [List.length_take, List.length_nil] at this; omega) (by rw [List.length_take]; omega) hg wr).mono ?_
        rintro e W1 ⟨rfl, hb1⟩
        have hval : cU (pre ++ rest.take (q + 1)) = cU pre * 10000000000000000000 + cU (rest.take (q + 1)) := by
         rw [dval_append]
         rcases H19.out with h | h
         · subst h; simp [cU]
         · have hq18 : q = 18 := by have := HQ.out; omega
           rw [List.length_take, hq18, Nat.min_eq_left (by omega)]
           rw [Nat.mul_comm]
        have hgl : cU (rest.take (q + 1)) < B := by
         have h1 := dval_lt (rest.take (q + 1)) (by simpa using hg)
         have h2 : 10 ^ (rest.take (q + 1)).length ≤ 10 ^ 19 := Nat.pow_le_pow_right (by omega) (by rw [List.length_take]; omega)
         exact Nat.lt_of_lt_of_le h1 (Nat.le_trans h2 (by decide))
        obtain ⟨K, hK1, hK2⟩ : ∃ K : Nat, 100000 ≤ K ∧ ((K + 1 : Nat) : Int) ≤ 1073741824 := ⟨100001, by omega, by omega⟩
        have hBK : B ≤ B ^ K := by
         have := Nat.pow_le_pow_right cO (show 1 ≤ K by omega)
         rwa [Nat.pow_one] at this
        have hpl : cU pre < B ^ K := by
         have h1 := dval_lt pre (by simpa using HD.out)
         have h2 : pre.length ≤ 100000 := by
          have := congrArg List.length HPre.out
          rw [List.length_append] at this
          omega
         exact Nat.lt_of_lt_of_le h1 (Nat.le_trans (Nat.pow_le_pow_left (by decide) _) (Nat.pow_le_pow_right cO (by omega)))
        have hnew : pre ++ rest.take (q + 1) ++ rest.drop (q + 1) = l := by rw [List.append_assoc, List.take_append_drop]; exact HPre.out.symm
        have hall : (pre ++ rest.take (q + 1)).all isDig = true := by rw [List.all_append, HD.out, hg]; rfl
        have hmod : (rest.drop (q + 1)).length % 19 = 0 := by rw [List.length_drop, HQ.out]; omega
        have hprod : cU pre * 10000000000000000000 < B ^ (K + 1) := by
         rw [Nat.pow_succ]
         exact Nat.mul_lt_mul'' hpl (by decide)
        have hgk : cU (rest.take (q + 1)) < B ^ (K + 1) := Nat.lt_of_lt_of_le hgl (by
         rw [Nat.pow_succ]
         exact Nat.le_mul_of_pos_left _ (Nat.pow_pos cO))
        have HW := Lib.hid (fun W => word_any (cU (rest.take (q + 1))) W hgl)
        have HT := Lib.hid (fun x y W (hx : co W x (cU pre)) (hy : co W y 10000000000000000000) => times_any x y (cU pre) 10000000000000000000 K W hx hy hpl (Nat.lt_of_lt_of_le (by decide) hBK) (by omega))
        have HP := Lib.hid (fun x y W (hx : co W x (cU pre * 10000000000000000000)) (hy : co W y (cU (rest.take (q + 1)))) => plus_any x y _ _ (K + 1) W hx hy hprod hgk hK2)
        have HVal := Lib.hid hval
        have HNew := Lib.hid hnew
        have HAll := Lib.hid hall
        have HMod := Lib.hid hmod
        have HX1 := Lib.hid (HX.out.below hb1 (Nat.le_refl _))
        have HB1 := Lib.hid (cf HB.out hb1)
        have hms : strLen (str (rest.drop (q + 1))) < strLen (str rest) := by
         simp [strLen, ByteArray.size]
         omega
        have HMs := Lib.hid hms
        clear hval hgl hpl hnew hall hmod hprod hgk hms hb1 hg HX HB hBK hK1 hK2
        generalize cU (rest.take (q + 1)) = gv at *
        generalize rest.drop (q + 1) = rest2 at *
        go_wp2_with fail
        have hone : co (W1.alloc (.cells #[.int .u64 10000000000000000000] 23)) (.slice (some ⟨W1.heap.size, 0, none⟩) 1 1) 10000000000000000000 := one_new W1 10000000000000000000 (by decide) (by decide)
        have hb2 := cu W1 (.cells #[.int .u64 10000000000000000000] 23)
        refine (HT.out _ _ _ (HX1.out.below hb2 (Nat.le_refl _)) hone).mono ?_
        rintro e W2 ⟨v2, rfl, hv2, hb3⟩
        have HV2 := Lib.hid hv2
        have HB2 := Lib.hid (cf (cf HB1.out hb2) hb3)
        obtain ⟨_, _, _, rfl, _⟩ := hv2.form
        clear hv2 hone hb2 hb3 HT HX1 HB1
        go_wp2_with fail
        refine (HW.out _).mono ?_
        rintro e W3 ⟨v3, rfl, hv3, hb3⟩
        have HV3 := Lib.hid hv3
        have HV2 := Lib.hid (HV2.out.below hb3 (Nat.le_refl _))
        have HB3 := Lib.hid (cf HB2.out hb3)
        obtain ⟨_, _, _, rfl, _⟩ := hv3.form
        clear hv3 hb3 HW HB2
        go_wp2_with fail
        refine (HP.out _ _ _ HV2.out HV3.out).mono ?_
        rintro e W4 ⟨v4, rfl, hv4, hb4⟩
        rw [← HVal.out] at hv4
        have HV4 := Lib.hid hv4
        have HB4 := Lib.hid (cf HB3.out hb4)
        obtain ⟨_, _, _, rfl, _⟩ := hv4.form
        clear hv4 hb4 HP HV2 HV3 HB3
        go_wp2_with fail
        go_roundw
        case rel => exact ⟨pre ++ rest.take (q + 1), rest2, rfl, HNew.out.symm, HAll.out, HV4.out, .inr HMod.out, HB4.out⟩
        case measure => exact HMs.out
      · have hg : (rest.take (q + 1)).all isDig = false := by simpa using hg
        refine (parse_bad (rest.take (q + 1)) (by intro e; have := congrArg List.length e; rw [List.length_take, List.length_nil] at this; omega) (by rw [List.length_take]; omega) hg wr (HG.out.below HB.out HG.out.size)).mono ?_
        rintro e W1 ⟨t, p, rfl, hb1⟩
        have hfin : okNat l = false := by
         rw [HPre.out]
         unfold okNat
         rw [← List.take_append_drop (q + 1) rest, List.all_append, List.all_append, hg]
         simp
        have HFin := Lib.hid hfin
        have HB1 := Lib.hid (cf HB.out hb1)
        clear hfin hb1 hg hxt hxd
        go_wp2_with fail
        refine bodyPost_ret (v := .tuple #[.slice none 0 0, .bool false]) (by simp [results, Tryz.results77, go_sem]) rfl ?_
        exact .inr ⟨HFin.out, rfl, HB1.out⟩
end Go.Proofs.YtccabfblgjcboaaGreatDoor
