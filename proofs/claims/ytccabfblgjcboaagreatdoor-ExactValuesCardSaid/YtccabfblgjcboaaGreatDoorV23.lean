/- Package exact: LawNum LawEqual LawLong Ops OrdMath LawAt Cls Lists ListsE Loops. -/
import Derived.Test.YtccabfblgjcboaaGreatDoorV22
import Derived.Test.YtccabfblgjcboaaGreatDoorV3
set_option linter.all false

namespace Go.Proofs.YtccabfblgjcboaaGreatDoor
open Go Go.RowKit Go.Proofs Lim
theorem number_any (l : List UInt8) (w : World) (hl : l.length ≤ 100000) (hG : Gr w) : Calls Tryz.prog 72 #[str l] w (cX w (readQ l).1) := by
 have HR := Lib.hid (fun W (hW : Below w.heap.size w W) => read_any l W hl (hG.below hW hG.size))
 clear hG hl
 go_enter Tryz.func72, Tryz.ntmps72
 go_wp2_with fail
 obtain ⟨W0, hW0, hb0, hz, hs⟩ := boxz w; rw [← hW0]; clear hW0; have HZ := Lib.hid hz; have HW0 := Lib.hid hb0; have hb0 := Below.refl W0.heap.size W0; clear hz
 refine (HR.out _ HW0.out).mono ?_
 rintro e W1 ⟨v, rfl, hv, hbb⟩
 generalize (readQ l).1 = r at *
 generalize (readQ l).2 = ec at *
 obtain ⟨s1, a1, b1, p1, rfl⟩ := hv.form
 have HV := Lib.hid hv
 have HB := Lib.hid hbb
 clear hv hbb hb0
 go_upto_region 2 with fail
 obtain ⟨W2, hW, hb, ⟨f0, f1, f2, f3⟩⟩ := box1 W1 (.bool s1) (u a1) (u b1) (.pointer p1); rw [← hW]; clear hW
 have HB2 := Lib.hid (cf HB.out hb)
 have hn : ¬ W1.heap.size = w.heap.size := by
  have h1 := (Array.getElem?_eq_some_iff.1 HZ.out).1
  have h2 := HB.out.size
  omega
 have hn' : ¬ w.heap.size = W1.heap.size := fun h => hn h.symm
 have HFin := Lib.hid (cX.stored (a0 := .bool s1) (a1 := u a1) (a2 := u b1) (a3 := .pointer p1) (HZ.out.below HB2.out (Nat.le_refl _)) (HV.out.below hb (Nat.le_refl _)) (cf HW0.out HB2.out) (Nat.le_refl _))
 (have hz := HZ.out.below HB2.out (Nat.le_refl _); have zf := hz.frozen; obtain ⟨z0, z1, z2, z3⟩ := hz.cells; have zf0 := zf 0; have zf1 := zf 1; have zf2 := zf 2; have zf3 := zf 3; clear zf hz)
 clear hb
 go_wp2_with fail
 refine bodyPost_ret (v := .agg #[.bool s1, u a1, u b1, .pointer p1]) (by simp [results, Tryz.results72, go_sem, z0, z1, z2, z3]) rfl ?_
 exact HFin.out
open Go Go.RowKit Go.Proofs Lim
theorem cmpQ_self (r : Rat) : cmpQ r r = 0 := by
 unfold cmpQ
 rw [if_neg Rat.lt_irrefl, if_neg Rat.lt_irrefl]
theorem cmpQ_eq {r s : Rat} (h : cmpQ r s = 0) : r = s := by
 unfold cmpQ at h
 split at h
 · exact absurd h (by decide)
 · rename_i h1
   split at h
   · exact absurd h (by decide)
   · rename_i h2
     exact Rat.le_antisymm (Rat.not_lt.1 h2) (Rat.not_lt.1 h1)
set_option maxHeartbeats 2000000 in
theorem equal_any (v1 v2 : Value) (r s : Rat) (k : Nat) (w : World) (h1 : cR w v1 r) (h2 : cR w v2 s) (z1 : cF r k) (z2 : cF s k) (hk : (k : Int) ≤ 1073741824) :
 Calls Tryz.prog 74 #[v1, v2] w (Val w (.bool (decide (r = s)))) := by
 have HC := Lib.hid (fun W (hW : Below w.heap.size w W) => cmp_q v1 v2 r s k W (h1.below hW (Nat.le_refl _)) (h2.below hW (Nat.le_refl _)) z1 z2 hk)
 obtain ⟨s1, x1, y1, p1, rfl⟩ := h1.form
 obtain ⟨s2, x2, y2, p2, rfl⟩ := h2.form
 by_cases hrs : r = s
 · have HT1 := Lib.hid (fun W (hW : Below w.heap.size w W) => text_q _ r k W (h1.below hW (Nat.le_refl _)) z1 hk)
   have HT2 := Lib.hid (fun W (hW : Below w.heap.size w W) => text_q _ s k W (h2.below hW (Nat.le_refl _)) z2 hk)
   subst hrs
   rw [cmpQ_self] at HC
   rw [show decide (r = r) = true from decide_eq_true rfl]
   clear h1 h2 z1 z2 hk
   generalize qtext r = tx at *
   go_enter Tryz.func74, Tryz.ntmps74
   go_wp2_with fail
   obtain ⟨W0, hW0, hb0, ⟨f0, f1, f2, f3⟩, ⟨g0, g1, g2, g3⟩⟩ := box2 w (.bool s1) (u x1) (u y1) (.pointer p1) (.bool s2) (u x2) (u y2) (.pointer p2); rw [← hW0]; clear hW0
   have HW0 := Lib.hid hb0
   clear hb0
   have hb0 := Below.refl W0.heap.size W0
   go_region_held3 (fun w' => (w'.cell? ⟨w.heap.size, 0, none⟩ = some (.bool s1) ∧ w'.cell? ⟨w.heap.size, 1, none⟩ = some (u x1) ∧ w'.cell? ⟨w.heap.size, 2, none⟩ = some (u y1) ∧ w'.cell? ⟨w.heap.size, 3, none⟩ = some (.pointer p1)) ∧ (w'.cell? ⟨w.heap.size + 1, 0, none⟩ = some (.bool s2) ∧ w'.cell? ⟨w.heap.size + 1, 1, none⟩ = some (u x2) ∧ w'.cell? ⟨w.heap.size + 1, 2, none⟩ = some (u y2) ∧ w'.cell? ⟨w.heap.size + 1, 3, none⟩ = some (.pointer p2))) (go_keep) (first | ((with_reducible refine (HC.out _ HW0.out.drew).mono ?_); rintro e W1 ⟨rfl, hb⟩; (obtain ⟨_, _, _, _⟩ := cq (b := w.heap.size) hb (by assumption) (by assumption) (by assumption) (by assumption); obtain ⟨_, _, _, _⟩ := cq (b := w.heap.size + 1) hb (by assumption) (by assumption) (by assumption) (by assumption)); have hb1 := cI hb0 hb; clear hb) | ((with_reducible refine (HT1.out _ (cf HW0.out hb1)).mono ?_); rintro e W2 ⟨rfl, hb⟩; (obtain ⟨_, _, _, _⟩ := cq (b := w.heap.size) hb (by assumption) (by assumption) (by assumption) (by assumption); obtain ⟨_, _, _, _⟩ := cq (b := w.heap.size + 1) hb (by assumption) (by assumption) (by assumption) (by assumption)); have hb1 := cf hb1 hb; clear hb) | ((with_reducible refine (HT2.out _ (cf HW0.out hb1)).mono ?_); rintro e W3 ⟨rfl, hb⟩; (obtain ⟨_, _, _, _⟩ := cq (b := w.heap.size) hb (by assumption) (by assumption) (by assumption) (by assumption); obtain ⟨_, _, _, _⟩ := cq (b := w.heap.size + 1) hb (by assumption) (by assumption) (by assumption) (by assumption)); have hb1 := cf hb1 hb; clear hb))
   go_wp2_with fail
   exact bodyPost_ret (v := .bool true) (by simp [results, Tryz.results74, go_sem]) rfl ⟨rfl, cf HW0.out hb1⟩
 · have hc : cmpQ r s = -1 ∨ cmpQ r s = 1 := by
    have h0 : ¬ cmpQ r s = 0 := fun h => hrs (cmpQ_eq h)
    unfold cmpQ at h0 ⊢
    split
    · exact Or.inl rfl
    · rename_i h1
      rw [if_neg h1] at h0
      split
      · exact Or.inr rfl
      · rename_i h2
        rw [if_neg h2] at h0
        exact absurd rfl h0
   rw [show decide (r = s) = false from decide_eq_false hrs]
   clear h1 h2 z1 z2 hk hrs
   rcases hc with hc | hc
   · rw [hc] at HC
     clear hc
     go_enter Tryz.func74, Tryz.ntmps74
     go_wp2_with fail
     obtain ⟨W0, hW0, hb0, ⟨f0, f1, f2, f3⟩, ⟨g0, g1, g2, g3⟩⟩ := box2 w (.bool s1) (u x1) (u y1) (.pointer p1) (.bool s2) (u x2) (u y2) (.pointer p2); rw [← hW0]; clear hW0
     have HW0 := Lib.hid hb0
     clear hb0
     have hb0 := Below.refl W0.heap.size W0
     go_region_with (refine (HC.out _ HW0.out.drew).mono ?_; rintro e W1 ⟨rfl, hb⟩; (obtain ⟨_, _, _, _⟩ := cq (b := w.heap.size) hb (by assumption) (by assumption) (by assumption) (by assumption); obtain ⟨_, _, _, _⟩ := cq (b := w.heap.size + 1) hb (by assumption) (by assumption) (by assumption) (by assumption)); have hb1 := cI hb0 hb; clear hb)
     all_goals go_wp2_with fail
     all_goals exact bodyPost_ret (v := .bool false) (by simp [results, Tryz.results74, go_sem]) rfl ⟨rfl, cf HW0.out hb1⟩
   · rw [hc] at HC
     clear hc
     go_enter Tryz.func74, Tryz.ntmps74
     go_wp2_with fail
     obtain ⟨W0, hW0, hb0, ⟨f0, f1, f2, f3⟩, ⟨g0, g1, g2, g3⟩⟩ := box2 w (.bool s1) (u x1) (u y1) (.pointer p1) (.bool s2) (u x2) (u y2) (.pointer p2); rw [← hW0]; clear hW0
     have HW0 := Lib.hid hb0
     clear hb0
     have hb0 := Below.refl W0.heap.size W0
     go_region_with (refine (HC.out _ HW0.out.drew).mono ?_; rintro e W1 ⟨rfl, hb⟩; (obtain ⟨_, _, _, _⟩ := cq (b := w.heap.size) hb (by assumption) (by assumption) (by assumption) (by assumption); obtain ⟨_, _, _, _⟩ := cq (b := w.heap.size + 1) hb (by assumption) (by assumption) (by assumption) (by assumption)); have hb1 := cI hb0 hb; clear hb)
     all_goals go_wp2_with fail
     all_goals exact bodyPost_ret (v := .bool false) (by simp [results, Tryz.results74, go_sem]) rfl ⟨rfl, cf HW0.out hb1⟩
open Go Go.RowKit Go.Proofs Lim
open Go Go.RowKit Go.Proofs Lim
theorem Below.drewn (W : World) : Below W.heap.size W W.drew := (Below.refl _ W).drew
theorem cR.drewn {W : World} {v : Value} {r : Rat} (h : cR W v r) : cR W.drew v r := h.below (Below.drewn W) (Nat.le_refl _)
def Sz (r : Rat) : Prop := cF r 1000
theorem cF.sz {r : Rat} {k : Nat} (h : cF r k) (hk : k ≤ 1000) : Sz r := h.le hk
theorem o_plus (w : World) (hG : Gr w) (v1 v2 : Value) (r s : Rat) (W : World) (hW : Below w.heap.size w W) (h1 : cR W v1 r) (h2 : cR W v2 s) (z1 : Sz r) (z2 : Sz s) : Calls Tryz.prog 25 #[v1, v2] W (cX W (r + s)) :=
 plus_q v1 v2 r s 1000 W h1 h2 z1 z2 (by decide) (hG.below hW hG.size)
theorem o_minus (w : World) (hG : Gr w) (v1 v2 : Value) (r s : Rat) (W : World) (hW : Below w.heap.size w W) (h1 : cR W v1 r) (h2 : cR W v2 s) (z1 : Sz r) (z2 : Sz s) : Calls Tryz.prog 27 #[v1, v2] W (cX W (r - s)) :=
 minus_q v1 v2 r s 1000 W h1 h2 z1 z2 (by decide) (hG.below hW hG.size)
theorem o_times (w : World) (hG : Gr w) (v1 v2 : Value) (r s : Rat) (W : World) (hW : Below w.heap.size w W) (h1 : cR W v1 r) (h2 : cR W v2 s) (z1 : Sz r) (z2 : Sz s) : Calls Tryz.prog 29 #[v1, v2] W (cX W (r * s)) :=
 times_q v1 v2 r s 1000 W h1 h2 z1 z2 (by decide) (hG.below hW hG.size)
theorem nbox (W : World) (n : Nat) (hn : W.heap.size = n) (a0 a1 a2 a3 : Value) : ∃ W', W.alloc (.cells #[a0, a1, a2, a3] 26) = W' ∧ Below W.heap.size W W' ∧ Box W' n a0 a1 a2 a3 ∧ W'.heap.size = n + 1 := by
 subst hn
 exact ⟨_, rfl, cu W _, heap_alloc_new W _, by show (W.heap.push _).size = _; simp⟩
open Go Go.RowKit Go.Proofs Lim
theorem sign_eq (r : Rat) : sign r = if r < 0 then -1 else if 0 < r then 1 else 0 := by
 unfold sign
 have h : r.num = 0 ↔ r = 0 := Rat.num_eq_zero
 have h2 : 0 ≤ r.num ↔ 0 ≤ r := Rat.num_nonneg
 have h3 : r.num < 0 ↔ r < 0 := by rw [← Int.not_le, h2, Rat.not_le]
 by_cases e : r = 0
 · subst e; decide +kernel
 · rw [if_neg (fun k => e (h.1 k))]
   by_cases k : r < 0
   · rw [if_pos (h3.2 k), if_pos k]
   · rw [if_neg (fun j => k (h3.1 j)), if_neg k, if_pos (by grind)]
section
variable {w0 V : World} {r1 r2 : Rat} {s1 s2 z1 z2 : Bool} {a1 b1 a2 b2 : Nat} {p1 p2 : Option Addr} {y1 y2 y3 y4 y5 y6 : Value}
end
open Go Go.RowKit Go.Proofs Lim
def partOf (m : Nat) : Rat := ((m : Int) : Rat) / ((255 : Int) : Rat)
theorem partOf_range {m : Nat} (h : m ≤ 255) : 0 ≤ partOf m ∧ partOf m ≤ 1 := by
 unfold partOf
 have h2 : (((255 : Int) : Rat)) = 255 := rfl
 have h0 : (0 : Rat) ≤ ((m : Int) : Rat) := Rat.intCast_le_intCast.2 (show (0 : Int) ≤ (m : Int) by omega)
 have h1 : ((m : Int) : Rat) ≤ 255 := Rat.intCast_le_intCast.2 (show (m : Int) ≤ (255 : Int) by omega)
 rw [h2, Rat.div_def]
 have h3 : (255 : Rat)⁻¹ * 255 = 1 := Rat.inv_mul_cancel _ (by decide)
 have h4 : (0 : Rat) < (255 : Rat)⁻¹ := Rat.inv_pos.2 (by decide)
 have h5 := Rat.mul_nonneg h0 (Rat.le_of_lt h4)
 have h6 := Rat.mul_nonneg (a := 255 - ((m : Int) : Rat)) (b := (255 : Rat)⁻¹) (by grind) (Rat.le_of_lt h4)
 constructor
 · exact h5
 · grind
set_option maxHeartbeats 2000000 in
theorem at_any (v : Value) (lo hi : Rat) (m : Nat) (w : World) (h : IsS w v lo hi) (hm : m ≤ 255) (z1 : cF lo 20) (z2 : cF hi 20) (hG : Gr w) :
 Calls Tryz.prog 73 #[v, .int .u8 (m : Int)] w (cX w (lo + (hi - lo) * partOf m)) := by
 have HOf := Lib.hid (fun W hG => of_q (m : Int) 255 (by omega) (by omega) (by decide) (by decide) W hG)
 have HG := Lib.hid (fun W (hW : Below w.heap.size w W) => hG.below hW hG.size)
 have zk : cF (partOf m) 2 := (siz_int (m : Int) (by omega) (by omega)).div (siz_int 255 (by decide) (by decide)) (by decide)
 have OMi := Lib.hid (fun v1 v2 W (hW : Below w.heap.size w W) h1 h2 => o_minus w hG v1 v2 hi lo W hW h1 h2 (z2.sz (by omega)) (z1.sz (by omega)))
 have OTi := Lib.hid (fun v1 v2 W (hW : Below w.heap.size w W) h1 h2 => o_times w hG v1 v2 (hi - lo) (partOf m) W hW h1 h2 ((z2.sub z1).sz (by omega)) (zk.sz (by omega)))
 have OPl := Lib.hid (fun v1 v2 W (hW : Below w.heap.size w W) h1 h2 => o_plus w hG v1 v2 lo ((hi - lo) * partOf m) W hW h1 h2 (z1.sz (by omega)) (((z2.sub z1).mul zk).sz (by omega)))
 obtain ⟨s1, a1, b1, p1, s2, a2, b2, p2, rfl, i1, i2⟩ := h
 have I1 := Lib.hid i1
 have I2 := Lib.hid i2
 have hw : IntKind.i64.wrap (m : Int) = (m : Int) := by rw [IntKind.wrap_i64]; omega
 clear z1 z2 zk hG i1 i2 hm
 go_enter Tryz.func73, Tryz.ntmps73
 go_wp2_with fail
 obtain ⟨Wa, hW, hb, hX⟩ := newbox8 w (.bool s1) (u a1) (u b1) (.pointer p1) (.bool s2) (u a2) (u b2) (.pointer p2)
 have hs : Wa.heap.size = w.heap.size + 1 := by rw [← hW]; show (w.heap.push _).size = _; simp
 rw [hW]; clear hW
 have HB := Lib.hid hb
 have QL := Lib.hid (I1.out.below hb (Nat.le_refl _))
 have QH := Lib.hid (I2.out.below hb (Nat.le_refl _))
 obtain ⟨Wb, hW, hb', hZ, hs'⟩ := nbox Wa (w.heap.size + 1) hs (.bool false) (.int .u64 0) (.int .u64 0) (.pointer none)
 rw [hW]; clear hW
 have HX := Lib.hid (cj.below hX hb' (Nat.le_refl _))
 have HB := Lib.hid (cf HB.out hb')
 have QL := Lib.hid (QL.out.below hb' (Nat.le_refl _))
 have QH := Lib.hid (QH.out.below hb' (Nat.le_refl _))
 have HZ := Lib.hid hZ
 clear hb hb' hX hZ hs hs' I1 I2
 refine (HOf.out _ (HG.out _ HB.out)).mono ?_
 rintro e Wc (⟨h0, _⟩ | ⟨_, vk, rfl, hk, hb⟩)
 · exact absurd h0 (by decide)
 have hk : cR Wc vk (partOf m) := hk
 obtain ⟨s3, a3, b3, p3, rfl⟩ := hk.form
 have HX := Lib.hid (cj.below HX.out hb (Nat.le_refl _))
 have HZ := Lib.hid (HZ.out.below hb (Nat.le_refl _))
 have HB := Lib.hid (cf HB.out hb)
 have QL := Lib.hid (QL.out.below hb (Nat.le_refl _))
 have QH := Lib.hid (QH.out.below hb (Nat.le_refl _))
 have QK := Lib.hid hk
 clear hb hk HOf
 generalize partOf m = pm at *
 go_upto_region 2 with fail
 obtain ⟨Wd, hW, hb, hK, hs⟩ := nbox Wc Wc.heap.size rfl (.bool s3) (u a3) (u b3) (.pointer p3)
 rw [hW]; clear hW
 have lz : w.heap.size + 1 < Wc.heap.size := (Array.getElem?_eq_some_iff.1 HZ.out).1
 have HX := Lib.hid (cj.below HX.out hb (Nat.le_refl _))
 have HZ := Lib.hid (HZ.out.below hb (Nat.le_refl _))
 have HB := Lib.hid (cf HB.out hb)
 have QL := Lib.hid (QL.out.below hb (Nat.le_refl _))
 have QH := Lib.hid (QH.out.below hb (Nat.le_refl _))
 have QK := Lib.hid (QK.out.below hb (Nat.le_refl _))
 have HK := Lib.hid hK
 clear hb hK hs
 generalize Wc.heap.size = n5 at *
 have n1 : ¬ w.heap.size = w.heap.size + 1 := by omega
 have n2 : ¬ w.heap.size + 1 = w.heap.size := by omega
 have n3 : ¬ n5 = w.heap.size + 1 := by omega
 have n4 : ¬ w.heap.size + 1 = n5 := by omega
 clear lz
 have hb0 := Below.refl Wd.heap.size Wd
 have ql := QL.out
 have qh := QH.out
 have qk := QK.out
 obtain ⟨c0, c1, c2, c3, c4, c5, c6, c7⟩ := HX.out.cells
 obtain ⟨k0, k1, k2, k3⟩ := HK.out.cells
 go_region_held3 (fun w' => w'.cell? ⟨w.heap.size, 0, none⟩ = some (.bool s1) ∧ w'.cell? ⟨w.heap.size, 1, none⟩ = some (u a1) ∧ w'.cell? ⟨w.heap.size, 2, none⟩ = some (u b1) ∧ w'.cell? ⟨w.heap.size, 3, none⟩ = some (.pointer p1) ∧ w'.cell? ⟨w.heap.size, 4, none⟩ = some (.bool s2) ∧ w'.cell? ⟨w.heap.size, 5, none⟩ = some (u a2) ∧ w'.cell? ⟨w.heap.size, 6, none⟩ = some (u b2) ∧ w'.cell? ⟨w.heap.size, 7, none⟩ = some (.pointer p2) ∧ w'.cell? ⟨n5, 0, none⟩ = some (.bool s3) ∧ w'.cell? ⟨n5, 1, none⟩ = some (u a3) ∧ w'.cell? ⟨n5, 2, none⟩ = some (u b3) ∧ w'.cell? ⟨n5, 3, none⟩ = some (.pointer p3)) (go_keep) (first | ((with_reducible refine (OMi.out _ _ _ (cf HB.out hb0.drew) qh.drewn ql.drewn).mono ?_); rintro e V1 ⟨v1, rfl, t1, hb⟩; obtain ⟨x1, y1, w1, r1, rfl⟩ := t1.form; replace hb0 : Below Wd.heap.size Wd V1 := cI hb0 hb; clear hb; clear c0 c1 c2 c3 c4 c5 c6 c7 k0 k1 k2 k3; replace ql := QL.out.below hb0 (Nat.le_refl _); replace qh := QH.out.below hb0 (Nat.le_refl _); replace qk := QK.out.below hb0 (Nat.le_refl _); obtain ⟨c0, c1, c2, c3, c4, c5, c6, c7⟩ := (HX.out.below hb0 (Nat.le_refl _)).cells; obtain ⟨k0, k1, k2, k3⟩ := (HK.out.below hb0 (Nat.le_refl _)).cells) | ((with_reducible refine (OTi.out _ _ _ (cf HB.out hb0) t1 qk).mono ?_); rintro e V1 ⟨v2, rfl, t2, hb⟩; obtain ⟨x2, y2, w2, r2, rfl⟩ := t2.form; clear t1; replace hb0 : Below Wd.heap.size Wd V1 := cf hb0 hb; clear hb; clear c0 c1 c2 c3 c4 c5 c6 c7 k0 k1 k2 k3; replace ql := QL.out.below hb0 (Nat.le_refl _); replace qh := QH.out.below hb0 (Nat.le_refl _); replace qk := QK.out.below hb0 (Nat.le_refl _); obtain ⟨c0, c1, c2, c3, c4, c5, c6, c7⟩ := (HX.out.below hb0 (Nat.le_refl _)).cells; obtain ⟨k0, k1, k2, k3⟩ := (HK.out.below hb0 (Nat.le_refl _)).cells) | ((with_reducible refine (OPl.out _ _ _ (cf HB.out hb0) ql t2).mono ?_); rintro e V1 ⟨v3, rfl, t3, hb⟩; obtain ⟨x3, y3, w3, r3, rfl⟩ := t3.form; clear t2; replace hb0 : Below Wd.heap.size Wd V1 := cf hb0 hb; clear hb; clear c0 c1 c2 c3 c4 c5 c6 c7 k0 k1 k2 k3; replace ql := QL.out.below hb0 (Nat.le_refl _); replace qh := QH.out.below hb0 (Nat.le_refl _); replace qk := QK.out.below hb0 (Nat.le_refl _); obtain ⟨c0, c1, c2, c3, c4, c5, c6, c7⟩ := (HX.out.below hb0 (Nat.le_refl _)).cells; obtain ⟨k0, k1, k2, k3⟩ := (HK.out.below hb0 (Nat.le_refl _)).cells; have hz := HZ.out.below hb0 (Nat.le_refl _); have zf := hz.frozen; obtain ⟨z0, z1, z2, z3⟩ := hz.cells; have zf0 := zf 0; have zf1 := zf 1; have zf2 := zf 2; have zf3 := zf 3; clear zf) | fail)
 have HFin := Lib.hid (cX.stored (a0 := .bool x3) (a1 := u y3) (a2 := u w3) (a3 := .pointer r3) hz t3 (cf HB.out hb0) (by omega))
 clear hz t3 hb0 ql qh qk c0 c1 c2 c3 c4 c5 c6 c7 k0 k1 k2 k3
 go_wp2_with fail
 refine bodyPost_ret (v := .agg #[.bool x3, u y3, u w3, .pointer r3]) (by simp [results, Tryz.results73, go_sem, z0, z1, z2, z3]) rfl ?_
 exact HFin.out
open Go Go.RowKit Go.Proofs Lim
theorem co.other' {W W' : World} {R : Nat} {cs : Array Value} {t : TypeId} {v : Value} {n : Nat} (hb : W.heap[R]? = some (.cells cs t (0, 0))) (ht : t ≠ 23) (h : co W v n) (ho : cN R W W') : co W' v n := by
 obtain ⟨xs, ⟨⟨ao, c, rfl, h1, h2, hr⟩, ok, typ⟩, htr, hv⟩ := h
 refine ⟨xs, ⟨⟨ao, c, rfl, h1, h2, fun hn => ?_⟩, ok, typ.other hb ht ho⟩, htr, hv⟩
 obtain ⟨b, off, rfl, row⟩ := hr hn
 refine ⟨b, off, rfl, ho.row ?_ row⟩
 intro e
 obtain ⟨cs', fr', hc⟩ := typ ⟨b, off, none⟩ _ _ rfl hn
 rw [show (⟨b, off, none⟩ : Addr).block = R from e, hb] at hc
 injection hc with hc
 injection hc with _ hc
 exact ht hc
theorem cR.other' {W W' : World} {R : Nat} {cs : Array Value} {t : TypeId} {v : Value} {r : Rat} (hb : W.heap[R]? = some (.cells cs t (0, 0))) (ht : t ≠ 23) (hz : ∀ x, cs[0]? = some x → Sym.noSl x = true) (h : cR W v r) (ho : cN R W W') : cR W' v r := by
 have h : Num W v _ _ _ := h
 show Num W' v _ _ _
 cases h with
 | low l hv hd hn hdB => exact .low l hv hd hn hdB
 | wide b x y hv hx hy h1 h2 hB h0 hd =>
  have hbR : b ≠ R := by
   intro e
   subst e
   obtain ⟨_, _, _, rfl, _⟩ := h1.form
   rw [World.cell?, hb] at hx
   have := hz _ (by simpa using hx)
   simp [Sym.noSl] at this
  exact .wide b x y hv ((ho.cell (p := ⟨b, 0, none⟩) hbR).trans hx) ((ho.cell (p := ⟨b, 1, none⟩) hbR).trans hy) (h1.other' hb ht ho) (h2.other' hb ht ho) hB h0 hd
namespace Sym
def cQ (r : Rat) (k : Nat) : Cl := ⟨[], 4, true, fun w f => cR w (.agg #[f 0, f 1, f 2, f 3]) r ∧ cF r k⟩
theorem clQ_ok {okT : List Nat} {B : Nat} (ht : ∀ t ∈ okT, t ≠ 23) (r : Rat) (k : Nat) : (cQ r k).Ok okT B := by
 refine ⟨fun w w' f hb h => ⟨h.1.below hb (Nat.le_refl _), h.2⟩, fun w w' R f cs t _ _ ho hm hz _ hb h => ⟨h.1.other' ho (ht t hm) hz hb, h.2⟩, ?_, ?_⟩
 · intro w f _ h
   obtain ⟨neg, a, b, p, hv⟩ := h.1.form
   injection hv with hv
   have : f 0 = .bool neg := by have := congrArg (fun x => x[0]?) hv; simpa using this
   rw [this]; rfl
 · intro w f j h hj
   obtain ⟨neg, a, b, p, hv⟩ := h.1.form
   injection hv with hv
   have h0 : f 0 = .bool neg := by have := congrArg (fun x => x[0]?) hv; simpa using this
   have h1 : f 1 = u a := by have := congrArg (fun x => x[1]?) hv; simpa using this
   have h2 : f 2 = u b := by have := congrArg (fun x => x[2]?) hv; simpa using this
   have h3 : f 3 = .pointer p := by have := congrArg (fun x => x[3]?) hv; simpa using this
   have hj : j < 4 := hj
   match j, hj with
   | 0, _ => rw [h0]; rfl
   | 1, _ => rw [h1]; rfl
   | 2, _ => rw [h2]; rfl
   | 3, _ => rw [h3]; rfl
def qp (c : Nat) : jw := .agg [.cls c 4]
def sp (c d : Nat) : jw := .agg [.cls c 4, .cls d 4]
section
variable {csz : List Nat} {numc : List Bool} {okT : List Nat} {nt : Nat} {cl : List Cl} {w0 : World} {w : World} {v : Value} {p1 p2 p3 p4 : jw} {c d c1 c2 c3 c4 c5 c6 : Nat} {r s t r1 r2 r3 r4 : Rat} {k k1 k2 k3 k4 k5 k6 : Nat}
theorem cells4 (f : Nat → Value) : (List.range 4).map f = [f 0, f 1, f 2, f 3] := rfl
theorem qp_is (h : cl[c]? = some (cQ r k)) : (qp c).is (mkC csz numc okT nt cl w0) w v ↔ cR w v r ∧ cF r k := by
 constructor
 · rintro ⟨vs, ⟨xs, ys, rfl, ⟨f, hE, rfl⟩, hy⟩, rfl⟩
   rw [show ys = [] from hy]
   simp only [mkC, h] at hE
   exact hE
 · rintro ⟨h1, h2⟩
   obtain ⟨neg, a, b, p, rfl⟩ := h1.form
   refine ⟨[.bool neg, u a, u b, .pointer p], ⟨_, [], (List.append_nil _).symm, ⟨fun j => [Value.bool neg, u a, u b, .pointer p].getD j undef, ?_, rfl⟩, rfl⟩, rfl⟩
   simp only [mkC, h]
   exact ⟨h1, h2⟩
theorem sp_is (h : cl[c]? = some (cQ r k)) (h' : cl[d]? = some (cQ s k1)) : (sp c d).is (mkC csz numc okT nt cl w0) w v ↔ IsS w v r s ∧ cF r k ∧ cF s k1 := by
 constructor
 · rintro ⟨vs, ⟨xs, ys, rfl, ⟨f, hE, rfl⟩, ⟨xs', ys', rfl, ⟨f', hE', rfl⟩, hy⟩⟩, rfl⟩
   rw [show ys' = [] from hy]
   simp only [mkC, h] at hE
   simp only [mkC, h'] at hE'
   obtain ⟨s1, a1, b1, p1, e1⟩ := hE.1.form
   obtain ⟨s2, a2, b2, p2, e2⟩ := hE'.1.form
   refine ⟨⟨s1, a1, b1, p1, s2, a2, b2, p2, ?_, e1 ▸ hE.1, e2 ▸ hE'.1⟩, hE.2, hE'.2⟩
   injection e1 with e1
   injection e2 with e2
   have g0 : f 0 = .bool s1 := by have := congrArg (fun x => x[0]?) e1; simpa using this
   have g1 : f 1 = u a1 := by have := congrArg (fun x => x[1]?) e1; simpa using this
   have g2 : f 2 = u b1 := by have := congrArg (fun x => x[2]?) e1; simpa using this
   have g3 : f 3 = .pointer p1 := by have := congrArg (fun x => x[3]?) e1; simpa using this
   have i0 : f' 0 = .bool s2 := by have := congrArg (fun x => x[0]?) e2; simpa using this
   have i1 : f' 1 = u a2 := by have := congrArg (fun x => x[1]?) e2; simpa using this
   have i2 : f' 2 = u b2 := by have := congrArg (fun x => x[2]?) e2; simpa using this
   have i3 : f' 3 = .pointer p2 := by have := congrArg (fun x => x[3]?) e2; simpa using this
   simp [cells4, g0, g1, g2, g3, i0, i1, i2, i3]
 · rintro ⟨⟨s1, a1, b1, p1, s2, a2, b2, p2, rfl, h1, h2⟩, z1, z2⟩
   refine ⟨[.bool s1, u a1, u b1, .pointer p1, .bool s2, u a2, u b2, .pointer p2], ⟨[.bool s1, u a1, u b1, .pointer p1], [.bool s2, u a2, u b2, .pointer p2], rfl, ⟨fun j => [Value.bool s1, u a1, u b1, .pointer p1].getD j undef, ?_, rfl⟩, ⟨_, [], (List.append_nil _).symm, ⟨fun j => [Value.bool s2, u a2, u b2, .pointer p2].getD j undef, ?_, rfl⟩, rfl⟩⟩, rfl⟩
   · simp only [mkC, h]; exact ⟨h1, z1⟩
   · simp only [mkC, h']; exact ⟨h2, z2⟩
def PQ (csz : List Nat) (numc : List Bool) (okT : List Nat) (nt : Nat) (cl : List Cl) (w0 : World) (p : jw) (r : Rat) (k : Nat) : Prop := ∀ w v, p.is (mkC csz numc okT nt cl w0) w v → cR w v r ∧ cF r k
def PS (csz : List Nat) (numc : List Bool) (okT : List Nat) (nt : Nat) (cl : List Cl) (w0 : World) (p : jw) (r : Rat) (k : Nat) (s : Rat) (j : Nat) : Prop := ∀ w v, p.is (mkC csz numc okT nt cl w0) w v → IsS w v r s ∧ cF r k ∧ cF s j
theorem pq (h : cl[c]? = some (cQ r k)) : PQ csz numc okT nt cl w0 (qp c) r k := fun _ _ h1 => (qp_is h).1 h1
theorem ps (h : cl[c]? = some (cQ r k)) (h' : cl[d]? = some (cQ s k1)) : PS csz numc okT nt cl w0 (sp c d) r k s k1 := fun _ _ h1 => (sp_is h h').1 h1
def fits (n k : Nat) : Bool := Nat.ble n k && Nat.ble k 1000000
theorem fits_le {n k : Nat} (h : fits n k = true) : n ≤ k ∧ k ≤ 1000000 := by
 simp only [fits, Bool.and_eq_true] at h
 exact ⟨Nat.le_of_ble_eq_true h.1, Nat.le_of_ble_eq_true h.2⟩
theorem ent_qq {f : Nat} (hE : Enters Tryz.prog f) (h1 : PQ csz numc okT nt cl w0 p1 r k1) (h2 : cl[c2]? = some (cQ t k2)) (hz : cF r k1 → cF t k2)
 (hc : ∀ W v, Below w0.heap.size w0 W → cR W v r → cF r k1 → Calls Tryz.prog f #[v] W (cX W t)) : V csz numc okT nt cl w0 (.call f) [p1] (.val (qp c2)) := by
 refine ⟨hE, fun w vs hb hvs => ?_⟩
 obtain ⟨v1, _, rfl, h4, rfl⟩ := hvs
 have h4 := h1 _ _ h4
 refine (hc w v1 hb h4.1 h4.2).mono ?_
 rintro e w' ⟨v, rfl, hv, hb'⟩
 exact ⟨v, rfl, (qp_is h2).2 ⟨hv, hz h4.2⟩, hb'⟩
theorem ent_qqq {f : Nat} (hE : Enters Tryz.prog f) (h1 : PQ csz numc okT nt cl w0 p1 r k1) (h2 : PQ csz numc okT nt cl w0 p2 s k2) (h3 : cl[c3]? = some (cQ t k3)) (hz : cF r k1 → cF s k2 → cF t k3)
 (hc : ∀ W v1 v2, Below w0.heap.size w0 W → cR W v1 r → cF r k1 → cR W v2 s → cF s k2 → Calls Tryz.prog f #[v1, v2] W (cX W t)) : V csz numc okT nt cl w0 (.call f) [p1, p2] (.val (qp c3)) := by
 refine ⟨hE, fun w vs hb hvs => ?_⟩
 obtain ⟨v1, _, rfl, h4, v2, _, rfl, h5, rfl⟩ := hvs
 have h4 := h1 _ _ h4
 have h5 := h2 _ _ h5
 refine (hc w v1 v2 hb h4.1 h4.2 h5.1 h5.2).mono ?_
 rintro e w' ⟨v, rfl, hv, hb'⟩
 exact ⟨v, rfl, (qp_is h3).2 ⟨hv, hz h4.2 h5.2⟩, hb'⟩
theorem ent_qqv {f : Nat} {x : Value} (hE : Enters Tryz.prog f) (h1 : PQ csz numc okT nt cl w0 p1 r k1) (h2 : PQ csz numc okT nt cl w0 p2 s k2)
 (hc : ∀ W v1 v2, Below w0.heap.size w0 W → cR W v1 r → cF r k1 → cR W v2 s → cF s k2 → Calls Tryz.prog f #[v1, v2] W (Val W x)) : V csz numc okT nt cl w0 (.call f) [p1, p2] (.val (vp x)) := by
 refine ⟨hE, fun w vs hb hvs => ?_⟩
 obtain ⟨v1, _, rfl, h4, v2, _, rfl, h5, rfl⟩ := hvs
 have h4 := h1 _ _ h4
 have h5 := h2 _ _ h5
 refine (hc w v1 v2 hb h4.1 h4.2 h5.1 h5.2).mono ?_
 rintro e w' ⟨rfl, hb'⟩
 exact ⟨_, rfl, vp_r _ _ _, hb'⟩
theorem e_plus (hG : Gr w0) (h1 : PQ csz numc okT nt cl w0 p1 r k1) (h2 : PQ csz numc okT nt cl w0 p2 s k2) (h3 : cl[c3]? = some (cQ (r + s) k3)) (hk : fits (k1 + k2 + 1) k3 = true) : V csz numc okT nt cl w0 (.call 25) [p1, p2] (.val (qp c3)) := by
 have hk := fits_le hk
 exact ent_qqq (enters_of Tryz.func25 (by kernel_rfl) rfl) h1 h2 h3 (fun z1 z2 => (z1.add z2).le (by omega)) (fun W v1 v2 hb q1 z1 q2 z2 => plus_q v1 v2 r s k3 W q1 q2 (z1.le (by omega)) (z2.le (by omega)) (by omega) (hG.below hb hG.size))
theorem e_times (hG : Gr w0) (h1 : PQ csz numc okT nt cl w0 p1 r k1) (h2 : PQ csz numc okT nt cl w0 p2 s k2) (h3 : cl[c3]? = some (cQ (r * s) k3)) (hk : fits (k1 + k2) k3 = true) : V csz numc okT nt cl w0 (.call 29) [p1, p2] (.val (qp c3)) := by
 have hk := fits_le hk
 exact ent_qqq (enters_of Tryz.func29 (by kernel_rfl) rfl) h1 h2 h3 (fun z1 z2 => (z1.mul z2).le (by omega)) (fun W v1 v2 hb q1 z1 q2 z2 => times_q v1 v2 r s k3 W q1 q2 (z1.le (by omega)) (z2.le (by omega)) (by omega) (hG.below hb hG.size))
theorem e_neg (h1 : PQ csz numc okT nt cl w0 p1 r k1) (h2 : cl[c2]? = some (cQ (-r) k2)) (hk : fits k1 k2 = true) : V csz numc okT nt cl w0 (.call 37) [p1] (.val (qp c2)) :=
 ent_qq (enters_of Tryz.func37 (by kernel_rfl) rfl) h1 h2 (fun z => z.neg.le (fits_le hk).1) (fun W v _ q _ => neg_q v r W q)
theorem e_equal {x : Bool} (h1 : PQ csz numc okT nt cl w0 p1 r k1) (h2 : PQ csz numc okT nt cl w0 p2 s k2) (hk : fits (k1 + k2) 1000000 = true) (hx : decide (r = s) = x) : V csz numc okT nt cl w0 (.call 74) [p1, p2] (.val (vp (.bool x))) := by
 have hk := fits_le hk
 exact ent_qqv (enters_of Tryz.func74 (by kernel_rfl) rfl) h1 h2 (fun W v1 v2 _ q1 z1 q2 z2 => hx ▸ equal_any v1 v2 r s (k1 + k2) W q1 q2 (z1.le (by omega)) (z2.le (by omega)) (by omega))
theorem e_over (hG : Gr w0) (h1 : PQ csz numc okT nt cl w0 p1 r k1) (h2 : PQ csz numc okT nt cl w0 p2 s k2) (h3 : cl[c3]? = some (cQ (r / s) k3)) (hk : fits (k1 + k2) k3 = true) (h0 : s ≠ 0) : V csz numc okT nt cl w0 (.call 34) [p1, p2] (.tup [qp c3, vp (.int .i64 0)]) := by
 have hk := fits_le hk
 have hn : s.num ≠ 0 := fun e => h0 (num_zero.1 e)
 refine ⟨enters_of Tryz.func34 (by kernel_rfl) rfl, fun w vs hb hvs => ?_⟩
 obtain ⟨v1, _, rfl, h4, v2, _, rfl, h5, rfl⟩ := hvs
 have h4 := h1 _ _ h4
 have h5 := h2 _ _ h5
 refine (over_q v1 v2 r s k3 w h4.1 h5.1 hn (h4.2.le (by omega)) (h5.2.le (by omega)) (by omega) (hG.below hb hG.size)).mono ?_
 rintro e w' ⟨v, rfl, hv, hb'⟩
 exact ⟨_, rfl, ⟨_, ⟨_, _, rfl, (qp_is h3).2 ⟨hv, (h4.2.div h5.2 hn).le hk.1⟩, _, _, rfl, vp_is.2 rfl, rfl⟩, rfl⟩, hb'⟩
theorem e_over0 (h1 : PQ csz numc okT nt cl w0 p1 r k1) (h2 : PQ csz numc okT nt cl w0 p2 s k2) (h3 : cl[c3]? = some (cQ 0 k3)) (hk : fits 1 k3 = true) (h0 : s = 0) : V csz numc okT nt cl w0 (.call 34) [p1, p2] (.tup [qp c3, vp (.int .i64 10)]) := by
 refine ⟨enters_of Tryz.func34 (by kernel_rfl) rfl, fun w vs hb hvs => ?_⟩
 obtain ⟨v1, _, rfl, h4, v2, _, rfl, h5, rfl⟩ := hvs
 have h4 := h1 _ _ h4
 have h5 := h2 _ _ h5
 refine (over_zero v1 v2 r s w h4.1 h5.1 (num_zero.2 h0)).mono ?_
 rintro e w' ⟨rfl, hb'⟩
 exact ⟨_, rfl, ⟨_, ⟨_, _, rfl, (qp_is h3).2 ⟨zero_val _, cF.zero _ (fits_le hk).1⟩, _, _, rfl, vp_is.2 rfl, rfl⟩, rfl⟩, hb'⟩
theorem e_known (hG : Gr w0) : V csz numc okT nt cl w0 (.call 10) [] (.val (vp (.bool true))) := by
 refine ⟨enters_of Tryz.func10 (by kernel_rfl) rfl, fun w vs hb hvs => ?_⟩
 have hvs : vs = [] := hvs
 subst hvs
 refine (known_any w (hG.below hb hG.size)).mono ?_
 rintro e w' ⟨rfl, hb'⟩
 exact ⟨_, rfl, vp_r _ _ _, hb'⟩
end
end Sym
open Go Go.RowKit Go.Proofs Lim
namespace Sym
def jp (w : World) : List Cl → List Value → Prop
 | [], vs => vs = []
 | x :: xs, vs => ∃ us ws, vs = us ++ ws ∧ (∃ f, x.p w f ∧ us = (List.range x.n).map f) ∧ jp w xs ws
def elN : List Cl → Nat
 | [] => 0
 | x :: xs => x.n + elN xs
theorem jp.length {w : World} : ∀ {e : List Cl} {vs : List Value}, jp w e vs → vs.length = elN e
 | [], _, h => by rw [show _ = [] from h]; rfl
 | x :: xs, _, ⟨us, ws, h1, ⟨f, _, h2⟩, h3⟩ => by subst h1 h2; simp [elN, h3.length]
theorem jp.append {w : World} : ∀ {e e' : List Cl} {vs : List Value}, jp w (e ++ e') vs → ∃ us ws, vs = us ++ ws ∧ jp w e us ∧ jp w e' ws
 | [], _, vs, h => ⟨[], vs, rfl, rfl, h⟩
 | x :: xs, e', _, ⟨us, ws, h1, h2, h3⟩ => by
  obtain ⟨us', ws', h4, h5, h6⟩ := jp.append (e := xs) h3
  subst h1 h4
  exact ⟨us ++ us', ws', by simp, ⟨us, us', rfl, h2, h5⟩, h6⟩
structure Cl.St (x : Cl) : Prop where
 below : ∀ w w' f, Below w.heap.size w w' → x.p w f → x.p w' f
 only : ∀ R w w' f cs t, w.heap[R]? = some (.cells cs t (0, 0)) → sepT t → (∀ x, cs[0]? = some x → noSl x = true) → cN R w w' → x.p w f → x.p w' f
 num : ∀ w f, x.p w f → noSl (f 0) = true
 cell : ∀ w f j, x.p w f → j < x.n → (f j).oneCell' = true
 pos : 0 < x.n
 noL : x.L = []
theorem jp.mono {w w' : World} : ∀ {e : List Cl} {vs : List Value}, (∀ x ∈ e, ∀ f, x.p w f → x.p w' f) → jp w e vs → jp w' e vs
 | [], _, _, h => h
 | x :: xs, _, hm, ⟨us, ws, h1, ⟨f, h2, h2'⟩, h3⟩ => ⟨us, ws, h1, ⟨f, hm x (by simp) f h2, h2'⟩, h3.mono (fun y hy => hm y (by simp [hy]))⟩
theorem jp.one {w : World} : ∀ {e : List Cl} {vs : List Value}, (∀ x ∈ e, x.St) → jp w e vs → ∀ v ∈ vs, v.oneCell' = true
 | [], _, _, h, v, hv => by rw [show _ = [] from h] at hv; simp at hv
 | x :: xs, _, hs, ⟨us, ws, h1, ⟨f, h2, h2'⟩, h3⟩, v, hv => by
  subst h1 h2'
  rcases List.mem_append.1 hv with hv | hv
  · obtain ⟨j, hj, rfl⟩ := List.mem_map.1 hv
    exact (hs x (by simp)).cell w f j h2 (by simpa using hj)
  · exact h3.one (fun y hy => hs y (by simp [hy])) v hv
theorem jp.first {w : World} {e : List Cl} {vs : List Value} (hs : ∀ x ∈ e, x.St) (h : jp w e vs) : ∀ v, vs[0]? = some v → noSl v = true := by
 intro v hv
 cases e with
 | nil => rw [show vs = [] from h] at hv; simp at hv
 | cons x xs =>
  obtain ⟨us, ws, rfl, ⟨f, h2, rfl⟩, h3⟩ := h
  have hp := (hs x (by simp)).pos
  rw [List.getElem?_append_left (by simpa using hp)] at hv
  have : v = f 0 := by
   rw [List.getElem?_map, List.getElem?_range hp] at hv
   simpa using hv.symm
  rw [this]
  exact (hs x (by simp)).num w f h2
theorem st_nil : ∀ x ∈ ([] : List Cl), x.St := fun t h => by simp at h
theorem st_cons {a : Cl} {l : List Cl} (h : a.St) (k : ∀ t ∈ l, t.St) : ∀ t ∈ a :: l, t.St := fun t ht => by
 rcases List.mem_cons.1 ht with rfl | ht
 · exact h
 · exact k t ht
theorem clQ_st (r : Rat) (k : Nat) : (cQ r k).St := by
 have h := clQ_ok (okT := []) (B := 0) (fun t h => by simp at h) r k
 exact ⟨h.below, fun R w w' f cs t ho ht hz hb hp => ⟨hp.1.other' ho ht.1 hz hb, hp.2⟩, fun w f hp => h.num w f rfl hp, h.cell, show 0 < 4 by decide, rfl⟩
theorem clV_st {v : Value} (h1 : v.oneCell' = true) (h2 : noSl v = true) : (clV v).St :=
 ⟨fun _ _ _ _ h => h, fun _ _ _ _ _ _ _ _ _ _ h => h, fun w f h => by rw [show f 0 = v from h]; exact h2, fun w f j h hj => by
  have hj : j < 1 := hj
  obtain rfl : j = 0 := by omega
  rw [show f 0 = v from h]; exact h1, show 0 < 1 by decide, rfl⟩
def Ls (n : Nat) (w : World) (v : Value) (es : List (List Cl)) : Prop := (∀ e ∈ es, ∀ x ∈ e, x.St) ∧ ∃ ao cap, v = .slice ao es.length cap ∧ es.length ≤ cap ∧ (cap : Int) ≤ 9223372036854775807 ∧
 (0 < es.length → ∃ b off, ao = some ⟨b, off, none⟩ ∧ ∀ i e, es[i]? = some e → ∃ vs, vs.length = n ∧ (∀ j u, vs[j]? = some u → w.cell? ⟨b, off + (i * n + j), none⟩ = some u) ∧ jp w e vs)
theorem Ls.below {n : Nat} {w w' : World} {v : Value} {es : List (List Cl)} (h : Ls n w v es) (hb : Below w.heap.size w w') : Ls n w' v es := by
 obtain ⟨hs, ao, cap, hv, h1, h2, h3⟩ := h
 refine ⟨hs, ao, cap, hv, h1, h2, fun hn => ?_⟩
 obtain ⟨b, off, ha, h4⟩ := h3 hn
 refine ⟨b, off, ha, fun i e hi => ?_⟩
 obtain ⟨vs, h5, h6, h7⟩ := h4 i e hi
 exact ⟨vs, h5, fun j u hj => (hb.cell (World.block_lt_of_cell? w _ (h6 j u hj))).trans (h6 j u hj), h7.mono (fun x hx f hp => (hs e (List.mem_of_getElem? hi) x hx).below w w' f hb hp)⟩
theorem Ls.one {n : Nat} {w : World} {v : Value} {es : List (List Cl)} (h : Ls n w v es) : v.oneCell' = true := by
 obtain ⟨_, ao, cap, rfl, _⟩ := h; rfl
def jr (B t n : Nat) (w : World) (z : Value) (es : List (List Cl)) : Prop :=
 (∀ e ∈ es, ∀ x ∈ e, x.St) ∧ (∀ g, z.ownBlock = some g → ∀ cs, w.heap[g]? = some (.cells cs t (0, 0)) → ∀ x, cs[0]? = some x → noSl x = true) ∧
 ∃ cs, w.ownsRow B t n z es.length cs ∧ ∀ i e, es[i]? = some e → jp w e ((cs.drop (i * n)).take n)
section
variable {B t n : Nat} {w w' : World} {z : Value} {es : List (List Cl)} {e : List Cl}
theorem jr.lt (h : jr B t n w z es) : ∀ k, z.ownBlock = some k → B ≤ k ∧ k < w.heap.size := by
 obtain ⟨_, _, cs, h3, _⟩ := h
 exact h3.lt
theorem jr.one (h : jr B t n w z es) : z.oneCell' = true := by
 obtain ⟨_, _, cs, ⟨_, ⟨rfl, _⟩ | ⟨g, cap, cur, rfl, _⟩⟩, _⟩ := h <;> rfl
theorem jr.typed (h : jr B t n w z es) {k : Nat} (hk : z.ownBlock = some k) : ∃ cs, w.heap[k]? = some (.cells cs t (0, 0)) := by
 obtain ⟨_, _, cs, ⟨_, ⟨rfl, _⟩ | ⟨g, cap, cur, rfl, _, hg, _⟩⟩, _⟩ := h
 · simp [Value.ownBlock] at hk
 · simp [Value.ownBlock] at hk
   subst hk
   exact ⟨cur, hg⟩
theorem jr.kept {row : Option Nat} (h : jr B t n w z es) (hg : w.grownBy w' row) (hne : z.ownBlock = none ∨ z.ownBlock ≠ row) (hm : ∀ e ∈ es, ∀ x ∈ e, ∀ f, x.p w f → x.p w' f) : jr B t n w' z es := by
 obtain ⟨hs, hz, cs, h3, h4⟩ := h
 refine ⟨hs, fun g hk cs' hc x hx => ?_, cs, h3.kept hg hne, fun i e hi => (h4 i e hi).mono (hm e (List.mem_of_getElem? hi))⟩
 have hlt := (h3.lt g hk).2
 rw [hg.block g hlt (by rcases hne with h | h <;> simp_all)] at hc
 exact hz g hk cs' hc x hx
theorem jr.below (h : jr B t n w z es) (hb : Below w.heap.size w w') : jr B t n w' z es := by
 have hs := h.1
 exact h.kept (row := none) ⟨hb.os, hb.tape, hb.output, hb.size, fun k hk _ => hb.block k hk⟩ (by cases z.ownBlock <;> simp) (fun e he x hx f hp => (hs e he x hx).below w w' f hb hp)
theorem jr.only {R : Nat} {cs : Array Value} {t' : Nat} (h : jr B t n w z es) (ho : w.heap[R]? = some (.cells cs t' (0, 0))) (ht : sepT t') (hz : ∀ x, cs[0]? = some x → noSl x = true) (hR : z.ownBlock ≠ some R) (hb : cN R w w') : jr B t n w' z es := by
 have hs := h.1
 exact h.kept (row := some R) ⟨hb.os, hb.tape, hb.output, Nat.le_of_eq hb.size.symm, fun k _ hk => hb.block k (fun e => hk (by rw [e]))⟩ (.inr hR) (fun e he x hx f hp => (hs e he x hx).only R w w' f cs t' ho ht hz hb hp)
theorem jr.ls (h : jr B t n w z es) : Ls n w z es := by
 obtain ⟨hs, _, cs, h3, h4⟩ := h
 have h3' := h3
 obtain ⟨hl, ⟨rfl, h0⟩ | ⟨g, cap, cur, rfl, hb, hg, hn, hc, hsz, ht⟩⟩ := h3
 · refine ⟨hs, none, 0, by rw [h0], by omega, by decide, fun hn => by omega⟩
 · refine ⟨hs, _, cap, rfl, hn, by simp only [maxLen] at hc; omega, fun _ => ⟨g, 0, rfl, fun i e hi => ⟨_, ?_, ?_, h4 i e hi⟩⟩⟩
   · have hil := (List.getElem?_eq_some_iff.1 hi).1
     have : (i + 1) * n ≤ es.length * n := Nat.mul_le_mul_right n hil
     rw [Nat.add_mul, Nat.one_mul] at this
     simp only [List.length_take, List.length_drop]
     omega
   · intro j u hj
     have := h3'.cells (g := g) rfl (i * n + j) u (by
      rw [List.getElem?_take] at hj
      split at hj
      · rw [List.getElem?_drop] at hj; exact hj
      · cases hj)
     rw [jh] at this
     exact this
theorem jr.fresh {k : Nat} (h : w.heap[k]? = some (.cells #[] t (0, 0))) (hB : B ≤ k) : jr B t n w (.slice (some ⟨k, 0, none⟩) 0 0) [] :=
 ⟨fun e he => by simp at he, fun g hg cs hc x hx => by
  simp [Value.ownBlock] at hg
  subst hg
  rw [h] at hc
  injection hc with hc
  injection hc with hc
  subst hc
  simp at hx, [], ⟨by simp, .inr ⟨k, 0, #[], rfl, hB, h, Nat.le_refl _, by decide, by simp, by simp⟩⟩, fun i e hi => by simp at hi⟩
theorem els_snoc {cs vs : List Value} (hl : cs.length = es.length * n) (hvn : vs.length = n) (h : ∀ i e, es[i]? = some e → jp w e ((cs.drop (i * n)).take n)) (hv : jp w e vs) : ∀ i e', (es ++ [e])[i]? = some e' → jp w e' (((cs ++ vs).drop (i * n)).take n) := by
 intro i e' hi
 rcases Nat.lt_or_ge i es.length with hlt | hge
 · rw [List.getElem?_append_left hlt] at hi
   have : (i + 1) * n ≤ es.length * n := Nat.mul_le_mul_right n hlt
   rw [Nat.add_mul, Nat.one_mul] at this
   rw [List.drop_append_of_le_length (by omega), List.take_append_of_le_length (by simp; omega)]
   exact h i e' hi
 · have hil : i < es.length + 1 := by
    have := (List.getElem?_eq_some_iff.1 hi).1
    simpa using this
   obtain rfl : i = es.length := by omega
   rw [List.getElem?_append_right (Nat.le_refl _), Nat.sub_self] at hi
   obtain rfl : e' = e := by simpa using hi.symm
   rw [List.drop_append, List.drop_of_length_le (by omega), hl, Nat.sub_self, List.drop_zero, List.nil_append, List.take_of_length_le (by omega)]
   exact hv
end
end Sym
open Go Go.RowKit Go.Proofs Lim
namespace Sym
def clO (B t n : Nat) (z : Value) (es : List (List Cl)) (ne : World → List Value → Prop) : Cl := ⟨z.ownBlock.toList.map (fun g => ⟨g, es.length * n, n, t, ne⟩), 1, false, fun w f => f 0 = z ∧ jr B t n w z es⟩
def clN (B t n : Nat) (es : List (List Cl)) : Cl := ⟨[], 1, false, fun w f => jr B t n w (f 0) es⟩
def dead : World → List Value → Prop := fun _ _ => False
section
variable {B t n : Nat} {z : Value} {es : List (List Cl)} {e : List Cl} {ne : World → List Value → Prop}
theorem clO_ok {okT : List Nat} {B0 : Nat} (ht : ∀ t ∈ okT, sepT t) (hz : z.oneCell' = true) : (clO B t n z es ne).Ok okT B0 := by
 refine ⟨fun w w' f hb h => ⟨h.1, h.2.below hb⟩, fun w w' R f cs t' _ hR ho hm hz _ hb h => ⟨h.1, h.2.only ho (ht _ hm) hz (fun e => hR ?_) hb⟩, fun _ _ h _ => absurd h (by simp [clO]), ?_⟩
 · simp [clO, e]
 · intro w f j h hj
   have hj : j < 1 := hj
   obtain rfl : j = 0 := by omega
   rw [h.1]; exact hz
theorem clN_ok {B0 : Nat} : (clN B t n es).Ok [] B0 := by
 refine ⟨fun w w' f hb h => h.below hb, fun w w' R f cs t' _ _ _ hm => by simp at hm, fun _ _ h _ => absurd h (by simp [clN]), ?_⟩
 intro w f j h hj
 have hj : j < 1 := hj
 obtain rfl : j = 0 := by omega
 exact h.one
theorem clO_L {g : Gw} (h : g ∈ (clO B t n z es ne).L) : g.t = t ∧ g.m = es.length * n ∧ g.n = n ∧ g.e = ne := by
 simp only [clO, List.mem_map] at h
 obtain ⟨k, _, rfl⟩ := h
 exact ⟨rfl, rfl, rfl, rfl⟩
theorem gr_st {x : Cl} {L : List Gw} (h : x.St) : x.Grows L := by
 rintro g hg w w' f ⟨cs, vs, h1, h2, h3, _, _, _, _, _, ho⟩ hp
 exact h.only g.R w w' f cs g.t h1 h2 h3 ho hp
theorem gr_W {v : Value} {L : List Gw} : (clW v).Grows L := fun _ _ _ _ _ _ h => h
theorem gr_V {v : Value} {L : List Gw} : (clV v).Grows L := fun _ _ _ _ _ _ h => h
theorem jr.grew {g : Gw} {w w' : World} (h : jr B t n w z es) (hg : Grew g w w') (hL : g.t ≠ t ∨ g.m = es.length * n) : jr B t n w' z es := by
 obtain ⟨cs, vs, h1, h2, h3, h4, h5, h5', h6, h7, ho⟩ := hg
 by_cases hR : z.ownBlock = some g.R
 · have hm : g.m = es.length * n := by
    rcases hL with hL | hL
    · obtain ⟨cs', hc⟩ := h.typed hR
      rw [h1] at hc
      injection hc with hc
      injection hc with _ hc
      exact absurd hc hL
    · exact hL
   obtain ⟨hs, hz, xs, ⟨hl, ⟨rfl, h0⟩ | ⟨b, cap, cur, rfl, hb, hbc, hn, hc, hsz, ht⟩⟩, he⟩ := h
   · simp [Value.ownBlock] at hR
   · have hR : b = g.R := by simpa [Value.ownBlock] using hR
     subst hR
     rw [h1] at hbc
     injection hbc with hbc
     injection hbc with e1 e2
     subst e1
     have hlen : (cs.toList.take g.m ++ vs ++ cs.toList.drop (g.m + g.n)).length = cs.size := by
      simp only [List.length_append, List.length_take, List.length_drop, Array.length_toList]
      omega
     refine ⟨hs, fun k hk cs' hc' x hx => ?_, xs, ⟨hl, .inr ⟨g.R, cap, _, rfl, hb, e2 ▸ h6, hn, hc, ?_, ?_⟩⟩, fun i e hi => (he i e hi).mono (fun x hx f hp => (hs e (List.mem_of_getElem? hi) x hx).only g.R w w' f cs g.t h1 h2 h3 ho hp)⟩
     · have hk : k = g.R := by simpa [Value.ownBlock] using hk.symm
       subst hk
       rw [h6] at hc'
       injection hc' with hc'
       injection hc' with hc'
       subst hc'
       simp only [List.getElem?_toArray] at hx
       rcases Nat.eq_zero_or_pos g.m with hm0 | hm0
       · rw [hm0, List.take_zero, List.nil_append] at hx
         rcases Nat.eq_zero_or_pos g.n with hn0 | hn0
         · have : vs = [] := List.eq_nil_of_length_eq_zero (by omega)
           subst this
           rw [hn0, List.nil_append, List.drop_zero] at hx
           exact h3 x (by simpa using hx)
         · rw [List.getElem?_append_left (by omega)] at hx
           exact h5' x hx
       · rw [List.append_assoc, List.getElem?_append_left (by simp; omega), List.getElem?_take, if_pos hm0] at hx
         exact h3 x (by simpa using hx)
     · simpa using hlen.trans hsz
     · have hle : es.length * n ≤ cs.size := by omega
       show List.take (es.length * n) (cs.toList.take g.m ++ vs ++ cs.toList.drop (g.m + g.n)) = xs
       rw [List.append_assoc, List.take_append_of_le_length (by simp; omega), List.take_take, ← ht, hm]
       simp
 · exact h.only h1 h2 h3 hR ho
theorem gr_O {L : List Gw} (hL : ∀ g ∈ L, g.t ≠ t ∨ g.m = es.length * n) : (clO B t n z es ne).Grows L := fun g hg w w' f hw h => ⟨h.1, h.2.grew hw (hL g hg)⟩
theorem gr_N {L : List Gw} (hs : ∀ x ∈ e, x.St) (hL : ∀ g ∈ L, g.t ≠ t ∨ g.m = es.length * n ∧ g.n = n ∧ g.e = (fun w vs => jp w e vs)) : (clN B t n (es ++ [e])).Grows L := by
 intro g hg w w' f hw h
 have h : jr B t n w (f 0) (es ++ [e]) := h
 show jr B t n w' (f 0) (es ++ [e])
 generalize f 0 = z at h ⊢
 have hw0 := hw
 obtain ⟨cs, vs, h1, h2, h3, h4, h5, h5', h6, h7, ho⟩ := hw
 by_cases hR : z.ownBlock = some g.R
 · obtain ⟨hm, hgn, hge⟩ : g.m = es.length * n ∧ g.n = n ∧ g.e = (fun w vs => jp w e vs) := by
    rcases hL g hg with hL | hL
    · obtain ⟨cs', hc⟩ := h.typed hR
      rw [h1] at hc
      injection hc with hc
      injection hc with _ hc
      exact absurd hc hL
    · exact hL
   rw [hge] at h7
   obtain ⟨hs', hz, xs, ⟨hl, ⟨rfl, h0⟩ | ⟨b, cap, cur, rfl, hb, hbc, hn, hc, hsz, ht⟩⟩, he⟩ := h
   · simp [Value.ownBlock] at hR
   · have hR : b = g.R := by simpa [Value.ownBlock] using hR
     subst hR
     rw [h1] at hbc
     injection hbc with hbc
     injection hbc with e1 e2
     subst e1
     have hel : (es ++ [e]).length = es.length + 1 := by simp
     rw [hel, Nat.add_mul, Nat.one_mul] at hl ht
     have hxl : (xs.take (es.length * n)).length = es.length * n := by rw [List.length_take]; omega
     have hlen : (cs.toList.take g.m ++ vs ++ cs.toList.drop (g.m + g.n)).length = cs.size := by
      simp only [List.length_append, List.length_take, List.length_drop, Array.length_toList]
      omega
     have hold : ∀ i e', es[i]? = some e' → jp w' e' (((xs.take (es.length * n)).drop (i * n)).take n) := by
      intro i e' hi
      have hil := (List.getElem?_eq_some_iff.1 hi).1
      have hle : (i + 1) * n ≤ es.length * n := Nat.mul_le_mul_right n hil
      rw [Nat.add_mul, Nat.one_mul] at hle
      have h8 := he i e' (by rw [List.getElem?_append_left hil]; exact hi)
      rw [List.drop_take, List.take_take, Nat.min_eq_left (by omega)]
      exact h8.mono (fun x hx f hp => (hs' e' (by simp [List.mem_of_getElem? hi]) x hx).only g.R w w' f cs g.t h1 h2 h3 ho hp)
     refine ⟨hs', fun k hk cs' hc' x hx => ?_, xs.take (es.length * n) ++ vs, ⟨by rw [List.length_append, hxl, h4, hgn, hel, Nat.add_mul, Nat.one_mul], .inr ⟨g.R, cap, _, rfl, hb, e2 ▸ h6, hn, hc, by simpa using hlen.trans hsz, ?_⟩⟩, els_snoc hxl (h4.trans hgn) hold h7⟩
     · have hk : k = g.R := by simpa [Value.ownBlock] using hk.symm
       subst hk
       rw [h6] at hc'
       injection hc' with hc'
       injection hc' with hc'
       subst hc'
       simp only [List.getElem?_toArray] at hx
       rcases Nat.eq_zero_or_pos g.m with hm0 | hm0
       · rw [hm0, List.take_zero, List.nil_append] at hx
         rcases Nat.eq_zero_or_pos g.n with hn0 | hn0
         · have : vs = [] := List.eq_nil_of_length_eq_zero (by omega)
           subst this
           rw [hn0, List.nil_append, List.drop_zero] at hx
           exact h3 x (by simpa using hx)
         · rw [List.getElem?_append_left (by omega)] at hx
           exact h5' x hx
       · rw [List.append_assoc, List.getElem?_append_left (by simp; omega), List.getElem?_take, if_pos hm0] at hx
         exact h3 x (by simpa using hx)
     · have hx : xs.take (es.length * n) = cs.toList.take (es.length * n) := by
        rw [← ht, List.take_take, Nat.min_eq_left (by omega)]
       show List.take ((es ++ [e]).length * n) (cs.toList.take g.m ++ vs ++ cs.toList.drop (g.m + g.n)) = xs.take (es.length * n) ++ vs
       rw [hel, Nat.add_mul, Nat.one_mul, hx, hm, hgn, List.take_append_of_le_length (by simp only [List.length_append, List.length_take, Array.length_toList]; omega)]
       exact List.take_of_length_le (by simp only [List.length_append, List.length_take, Array.length_toList]; omega)
 · exact h.only h1 h2 h3 hR ho
end
theorem hd_fa {o : Oper} {s f : Nat} {xs : List Operand} (h : opHd o = some (.fa s f, xs)) : ∃ x, o.op = .fieldAddr s x f ∧ xs = [x] := by
 unfold opHd at h
 split at h <;> first
  | (rename_i h0; simp only [Option.some.injEq, Prod.mk.injEq, Hd.fa.injEq, reduceCtorEq, false_and] at h; try (obtain ⟨⟨rfl, rfl⟩, rfl⟩ := h; exact ⟨_, h0, rfl⟩))
  | (split at h <;> simp at h)
  | simp at h
theorem hd_bs {o : Oper} {t n : Nat} {xs : List Operand} (h : opHd o = some (.bs t n, xs)) : ∃ parts, o.op = .buildSlice t n parts ∧ parts.toList.map (·.1) = List.range parts.toList.length ∧ xs = parts.toList.map (·.2) := by
  unfold opHd at h
  split at h <;> first
    | (rename_i h0
       split at h
       · rename_i h1
         simp only [Option.some.injEq, Prod.mk.injEq, Hd.bs.injEq] at h
         obtain ⟨⟨rfl, rfl⟩, rfl⟩ := h
         exact ⟨_, h0, of_decide_eq_true h1, rfl⟩
       · simp at h)
    | (split at h <;> simp at h)
    | simp at h
theorem hd_mf {o : Oper} {f : Nat} {xs : List Operand} (h : opHd o = some (.mf f, xs)) : ∃ fs, o.op = .makeFunc (.func f) fs #[] ∧ xs = fs.toList := by
 unfold opHd at h
 split at h <;> first
  | (rename_i h0; simp only [Option.some.injEq, Prod.mk.injEq, Hd.mf.injEq, reduceCtorEq, false_and] at h; try (obtain ⟨rfl, rfl⟩ := h; exact ⟨_, h0, rfl⟩))
  | (split at h <;> simp at h)
  | simp at h
section
variable {csz : List Nat} {numc : List Bool} {okT : List Nat} {nt : Nat} {cl : List Cl} {w0 : World} {w : World} {v x : Value} {p1 p2 : jw} {res : RPat} {c i : Nat} {n : Nat} {es : List (List Cl)} {e pre mid post : List Cl}
theorem op_isC {y : Cl} (h : cl[c]? = some y) (hn : y.n = 1) (hp : ∀ w f g, f 0 = g 0 → y.p w f → y.p w g) : (op c).is (mkC csz numc okT nt cl w0) w v ↔ y.p w (fun _ => v) := by
 constructor
 · rintro ⟨f, hE, hv⟩
   simp only [mkC, h] at hE
   have : v = f 0 := by simpa [List.range_succ] using hv
   exact hp _ _ _ this.symm hE
 · intro hv
   refine ⟨fun _ => v, ?_, rfl⟩
   simp only [mkC, h]
   exact hv
theorem op_isO {B t : Nat} {z : Value} {ne : World → List Value → Prop} (h : cl[c]? = some (clO B t n z es ne)) : (op c).is (mkC csz numc okT nt cl w0) w v ↔ v = z ∧ jr B t n w z es :=
 op_isC h rfl (fun w f g e hp => ⟨e ▸ hp.1, hp.2⟩)
theorem op_isN {B t : Nat} (h : cl[c]? = some (clN B t n es)) : (op c).is (mkC csz numc okT nt cl w0) w v ↔ jr B t n w v es :=
 op_isC h rfl (fun w f g e hp => by show jr _ _ _ _ (g 0) _; rw [← e]; exact hp)
def Res (cl : List Cl) : List Grp → List Cl → Prop
 | [], xs => xs = []
 | .cls c n :: gs, xs => ∃ x xs', xs = x :: xs' ∧ cl[c]? = some x ∧ n = x.n ∧ Res cl gs xs'
 | .lit _ :: _, _ => False
theorem res_are : ∀ {gs : List Grp} {xs : List Cl} {vs : List Value}, Res cl gs xs → jp w xs vs → GrpsAre (mkC csz numc okT nt cl w0) w gs vs
 | [], _, vs, h, hv => by rw [show _ = [] from h] at hv; exact hv
 | .cls c n :: gs, _, vs, ⟨x, xs', rfl, h1, h2, h3⟩, ⟨us, ws, e1, ⟨f, h4, e2⟩, h5⟩ => ⟨us, ws, e1, ⟨f, by simp only [mkC, h1]; exact h4, by rw [h2]; exact e2⟩, res_are h3 h5⟩
 | .lit _ :: _, _, _, h, _ => h.elim
theorem are_res : ∀ {gs : List Grp} {xs : List Cl} {vs : List Value}, Res cl gs xs → GrpsAre (mkC csz numc okT nt cl w0) w gs vs → jp w xs vs
 | [], _, vs, h, hv => by rw [show _ = [] from h]; exact hv
 | .cls c n :: gs, _, vs, ⟨x, xs', rfl, h1, h2, h3⟩, ⟨us, ws, e1, ⟨f, h4, e2⟩, h5⟩ => ⟨us, ws, e1, ⟨f, by simp only [mkC, h1] at h4; exact h4, by rw [← h2]; exact e2⟩, are_res h3 h5⟩
 | .lit _ :: _, _, _, h, _ => h.elim
def PZ (csz : List Nat) (numc : List Bool) (okT : List Nat) (nt : Nat) (cl : List Cl) (w0 : World) (p : jw) (n : Nat) (es : List (List Cl)) : Prop := ∀ w v, Below w0.heap.size w0 w → p.is (mkC csz numc okT nt cl w0) w v → Ls n w v es
theorem pzW (h : cl[c]? = some (clW x)) (hx : Ls n w0 x es) : PZ csz numc okT nt cl w0 (op c) n es := fun w v hb hp => by rw [(cE h).1 hp]; exact hx.below hb
theorem pzO {B t : Nat} {z : Value} {ne : World → List Value → Prop} (h : cl[c]? = some (clO B t n z es ne)) : PZ csz numc okT nt cl w0 (op c) n es := fun w v hb hp => by rw [((op_isO h).1 hp).1]; exact ((op_isO h).1 hp).2.ls
theorem e_lenZ {t : Nat} (ht : Tryz.prog.underlying t = some (.slice (Tryz.prog.elem t))) (h1 : PZ csz numc okT nt cl w0 p1 n es) (h3 : RV csz numc okT nt cl w0 res (ii (es.length : Int))) : V csz numc okT nt cl w0 (.blt .len [t] 3) [p1] res := by
 intro w ρ oo xs ho hb hvs
 obtain ⟨c, hop, hc, hat, hty, rfl⟩ := hd_blt ho
 obtain ⟨v1, _, e1, h4, e2⟩ := hvs
 subst e2
 obtain ⟨_, ao, cap, rfl, _⟩ := h1 _ _ hb h4
 refine ⟨_, w, ?_, h3 w, Below.refl _ _⟩
 have he : c.args.map ρ = #[Value.slice ao es.length cap] := by
  apply Array.ext'
  simpa using e1
 show (execOp ρ oo).run Tryz.prog w = _
 simp only [execOp, hop, resolve, hc, he, Sem.run_bind, Sem.run_pure, Result.andThen_ok, invoke, builtin, hat, hty]
 simp [Sem.run_bind, run_len_slice _ _ _ _ _ _ ht, Result.andThen, goInt]
theorem e_ixZ {t : Nat} (ht : Tryz.prog.underlying t = some (.slice (Tryz.prog.elem t))) (he : (Tryz.prog.info? (Tryz.prog.elem t)).map (·.size) = some n) (h1 : PV csz numc okT nt cl w0 p1 x) (hx : ∀ w v, Below w0.heap.size w0 w → p1.is (mkC csz numc okT nt cl w0) w v → Ls n w v es) (h2 : PV csz numc okT nt cl w0 p2 (ii (i : Int))) (hi : i < es.length) (h3 : RV csz numc okT nt cl w0 res (cT x (i * n))) : V csz numc okT nt cl w0 (.ix t) [p1, p2] res := by
 intro w ρ oo xs ho hb hvs
 obtain ⟨a, b, hop, rfl⟩ := hd_ix ho
 obtain ⟨v1, _, e1, h4, v2, _, e2, h5, e3⟩ := hvs
 have hl := hx _ _ hb h4
 obtain rfl := h1 _ _ h4
 obtain rfl := h2 _ _ h5
 subst e2
 simp only [List.map_cons, List.map_nil, List.cons.injEq] at e1
 obtain ⟨ea, eb, _⟩ := e1
 obtain ⟨_, ao, cap, rfl, h6, h7, h8⟩ := hl
 obtain ⟨k, off, rfl, hr⟩ := h8 (by omega)
 obtain ⟨inf, hinf, hsz⟩ := Option.map_eq_some_iff.1 he
 refine ⟨_, w, ?_, h3 w, Below.refl _ _⟩
 show (execOp ρ oo).run Tryz.prog w = _
 have hs : (sizeOf (Tryz.prog.elem t)).run Tryz.prog w = .ok n w := by rw [← hsz]; exact run_size hinf w
 simp only [execOp, hop, ea, eb, Sem.run_bind, run_indexAt_slice _ _ _ _ _ _ _ ht]
 rw [if_pos (by omega)]
 simp [hs, Result.andThen, jh, cT]
theorem e_faZ {s f j off m : Nat} (hf : (fieldOf Tryz.prog s f).map (fun fl => (fl.offset, (Tryz.prog.info? fl.type).map (·.size))) = some (off, some (m + 1))) (h1 : PV csz numc okT nt cl w0 p1 (cT x j)) (hx : ∃ a n c, x = .slice (some ⟨a, n, none⟩) es.length c) (h3 : RV csz numc okT nt cl w0 res (cT x (j + off))) : V csz numc okT nt cl w0 (.fa s f) [p1] res := by
 intro w ρ oo xs ho hb hvs
 obtain ⟨a, hop, rfl⟩ := hd_fa ho
 obtain ⟨v1, _, e1, h4, e2⟩ := hvs
 obtain rfl := h1 _ _ h4
 subst e2
 simp only [List.map_cons, List.map_nil, List.cons.injEq] at e1
 obtain ⟨ea, _⟩ := e1
 obtain ⟨k, o, cp, rfl⟩ := hx
 obtain ⟨fl, hfl, e⟩ := Option.map_eq_some_iff.1 hf
 simp only [Prod.mk.injEq] at e
 obtain ⟨e1, e2⟩ := e
 obtain ⟨inf, hinf, hsz⟩ := Option.map_eq_some_iff.1 e2
 obtain ⟨fs, g1, g2⟩ := fieldOf_run hfl
 refine ⟨_, w, ?_, h3 w, Below.refl _ _⟩
 show (execOp ρ oo).run Tryz.prog w = _
 simp [execOp, hop, ea, cT, Instr.fieldAt, underlying, g1, g2, Instr.sureAddr, fieldPlace, run_size hinf, hsz, jh, e1, Nat.add_assoc]
theorem Ls.real (h : Ls n w x es) (hi : i < es.length) : ∃ a n c, x = .slice (some ⟨a, n, none⟩) es.length c := by
 obtain ⟨_, ao, cap, rfl, h6, h7, h8⟩ := h
 obtain ⟨k, off, rfl, hr⟩ := h8 (by omega)
 exact ⟨k, off, cap, rfl⟩
theorem Ls.part (h : Ls n w x es) (hi : es[i]? = some (pre ++ mid ++ post)) : ∃ b off c ws, x = .slice (some ⟨b, off, none⟩) es.length c ∧ jp w mid ws ∧ ∀ j u, ws[j]? = some u → w.cell? ⟨b, off + (i * n + elN pre) + j, none⟩ = some u := by
 obtain ⟨_, ao, cap, rfl, h6, h7, h8⟩ := h
 have hil := (List.getElem?_eq_some_iff.1 hi).1
 obtain ⟨k, off, rfl, hr⟩ := h8 (by omega)
 obtain ⟨vs, g1, g2, g3⟩ := hr i _ hi
 obtain ⟨us, ws, e1, g4, g5⟩ := g3.append
 obtain ⟨us', ws', e2, g6, g7⟩ := g4.append
 subst e1 e2
 refine ⟨k, off, cap, ws', rfl, g7, fun j u hj => ?_⟩
 have := g2 (elN pre + j) u (by
  rw [List.append_assoc, List.getElem?_append_right (by rw [g6.length]; omega), g6.length, List.getElem?_append_left (by have := (List.getElem?_eq_some_iff.1 hj).1; omega)]
  rw [show elN pre + j - elN pre = j by omega]; exact hj)
 rw [show off + (i * n + elN pre) + j = off + (i * n + (elN pre + j)) by omega]
 exact this
theorem e_ldZ {t m : Nat} {gs : List Grp} (ht : (Tryz.prog.underlying t).map isAggD = some true) (hz : (Tryz.prog.info? t).map (·.size) = some m) (pre post : List Cl) (h1 : PV csz numc okT nt cl w0 p1 (cT x (i * n + elN pre))) (hx : ∀ w, Below w0.heap.size w0 w → Ls n w x es) (hi : es[i]? = some (pre ++ mid ++ post)) (hr : Res cl gs mid) (hm : elN mid = m) : V csz numc okT nt cl w0 (.ld t) [p1] (.val (.agg gs)) := by
 subst hm
 intro w ρ oo xs ho hb hvs
 obtain ⟨a, hop, rfl⟩ := hd_ld ho
 obtain ⟨v1, _, e1, h4, e2⟩ := hvs
 obtain rfl := h1 _ _ h4
 subst e2
 simp only [List.map_cons, List.map_nil, List.cons.injEq] at e1
 obtain ⟨ea, _⟩ := e1
 obtain ⟨b, off, cp, ws, rfl, g1, g2⟩ := (hx w hb).part hi
 obtain ⟨d, hd, hagg⟩ := Option.map_eq_some_iff.1 ht
 obtain ⟨inf, hinf, hsz⟩ := Option.map_eq_some_iff.1 hz
 refine ⟨.agg ws.toArray, w, ?_, ⟨ws, res_are hr g1, rfl⟩, Below.refl _ _⟩
 show (execOp ρ oo).run Tryz.prog w = _
 have := run_loadCells_list (P := Tryz.prog) (w := w) ⟨b, off + (i * n + elN pre), none⟩ ws (fun j v hj => by rw [jh]; exact g2 j v hj)
 rw [show ws.length = inf.size by rw [hsz, g1.length]] at this
 simp [execOp, hop, ea, cT, Instr.loadAt, Instr.sureAddr, loadVar, run_isAggD hd, hagg, run_size hinf, this]
theorem e_ldZ1 {t : Nat} {y : Cl} (ht : (Tryz.prog.underlying t).map isAggD = some false) (pre post : List Cl) (h1 : PV csz numc okT nt cl w0 p1 (cT x (i * n + elN pre))) (hx : ∀ w, Below w0.heap.size w0 w → Ls n w x es) (hi : es[i]? = some (pre ++ [y] ++ post)) (hy : y.n = 1) (hc : cl[c]? = some y) : V csz numc okT nt cl w0 (.ld t) [p1] (.val (op c)) := by
 intro w ρ oo xs ho hb hvs
 obtain ⟨a, hop, rfl⟩ := hd_ld ho
 obtain ⟨v1, _, e1, h4, e2⟩ := hvs
 obtain rfl := h1 _ _ h4
 subst e2
 simp only [List.map_cons, List.map_nil, List.cons.injEq] at e1
 obtain ⟨ea, _⟩ := e1
 obtain ⟨b, off, cp, ws, rfl, ⟨us, ws', e1, ⟨f, g1, e2⟩, e3⟩, g2⟩ := (hx w hb).part hi
 obtain ⟨d, hd, hagg⟩ := Option.map_eq_some_iff.1 ht
 rw [hy] at e2
 have e3 : ws' = [] := e3
 subst e3 e2 e1
 have g2 : w.cell? ⟨b, off + (i * n + elN pre), none⟩ = some (f 0) := by simpa using g2 0 (f 0) (by simp [List.range_succ])
 refine ⟨f 0, w, ?_, ⟨f, by simp only [mkC, hc]; exact g1, by simp [List.range_succ]⟩, Below.refl _ _⟩
 show (execOp ρ oo).run Tryz.prog w = _
 simp [execOp, hop, ea, cT, Instr.loadAt, Instr.sureAddr, loadVar, run_isAggD hd, hagg, g2]
end
end Sym
open Go Go.RowKit Go.Proofs Lim
namespace Sym
def jc : Nat → Code → Code
 | 0, c => c
 | k + 1, .seq _ r => jc k r
 | _ + 1, c => c
def execF (S : Stat) (T : List Ent) (n : Nat) : Nat → Code → St → Option St
 | 0, _, st => some st
 | k + 1, c, st => match c with
  | .seq x r => match exec S T n x st with
   | some (.normal, st') => execF S T n k r st'
   | _ => none
  | _ => none
def frontB (S : Stat) (T : List Ent) (n k : Nat) (c : Code) (pre post : List Item) : Bool :=
 match entry pre 0 with
 | some ws => match execF S T n k c ⟨pre.length, ws⟩ with
  | some st' => meets (fun k => jm k st'.m) post []
  | none => false
 | none => false
section
variable {C : Ctx} {T : List Ent} {Q : Exit → Act → World → Prop} {a : Act} {w : World}
theorem execF_is (hC : C.Ok) (hT : ∀ t ∈ T, t.Valid C) {n : Nat} : ∀ {k : Nat} {c : Code} {st st' : St} {a : Act} {w : World}, execF C.toStat T n k c st = some st' → Sat C st a w → (∀ a' w', Sat C st' a' w' → (jc k c).wp C.P Q a' w') → c.wp C.P Q a w
 | 0, c, st, st', a, w, h, hs, hQ => by
  simp [execF] at h; subst h
  exact hQ a w hs
 | k + 1, c, st, st', a, w, h, hs, hQ => by
  unfold execF at h
  split at h
  · split at h
    · rename_i x r _ st1 he
      refine wp_seq (wp_mono (exec_is hC hT n _ _ _ _ he a w hs) ?_)
      rintro e a' w' ⟨rfl, hs'⟩
      exact execF_is hC hT h hs' hQ
    · cases h
  · cases h
theorem front_is (hC : C.Ok) (hT : ∀ t ∈ T, t.Valid C) (n k : Nat) {c : Code} {pre : List Item} (post : List Item) (h : frontB C.toStat T n k c pre post = true) (hA : At C pre a w) (hQ : ∀ a' w', At C post a' w' → (jc k c).wp C.P Q a' w') : c.wp C.P Q a w := by
 unfold frontB at h
 split at h
 · rename_i ws hws
   split at h
   · rename_i st' he
     exact execF_is hC hT he (hA.sat hws) (fun a' w' hs => hQ a' w' (hs.meet h))
   · cases h
 · cases h
theorem At.turn {is is' : List Item} (hA : At C is a w) (h : ItemsAre C a w is [] → ItemsAre C a w is' []) : At C is' a w := ⟨hA.below, hA.defers, hA.size, h hA.items, hA.lim⟩
def gsN : List Grp → Nat
 | [] => 0
 | .lit _ :: l => 1 + gsN l
 | .cls _ n :: l => n + gsN l
theorem grps_len : ∀ {gs : List Grp} {vs : List Value}, GrpsAre C w gs vs → vs.length = gsN gs
 | [], _, h => by rw [show _ = [] from h]; rfl
 | .lit _ :: l, _, ⟨xs, ys, e, h1, h2⟩ => by rw [e, show xs = _ from h1]; simp [gsN, grps_len h2]; omega
 | .cls _ _ :: l, _, ⟨xs, ys, e, ⟨f, _, h1⟩, h2⟩ => by rw [e, h1]; simp [gsN, grps_len h2]
theorem at_boxS {fn : Func} {t s ty : Nat} {gs : List Grp} {p : jw} {l : List Item} (hr : fn.results = #[.cell t ty, .tmp s]) (hd : (C.P.underlying ty).map isAggD = some true) (hz : (C.P.info? ty).map (·.size) = some (gsN gs)) (hA : At C (.box t ty gs :: .val s p :: l) a w) {Q : Ending → World → Prop} (h : ∀ v u, (jw.agg gs).is C w v → p.is C w u → Q (.returned (.tuple #[v, u])) w) : bodyPost C.P fn Q .ret a w := by
 obtain ⟨k, vs, h1, _, _, h4, h5, ⟨u, h6, h7⟩, _⟩ := hA.items
 refine ⟨hA.defers, .tuple #[.agg vs.toArray, u], ?_, h _ _ ⟨vs, h5, rfl⟩ h7⟩
 obtain ⟨d, hd, hag⟩ := Option.map_eq_some_iff.1 hd
 obtain ⟨inf, hinf, hsz⟩ := Option.map_eq_some_iff.1 hz
 have hl := run_loadCells_list (P := C.P) (w := w) ⟨k, 0, none⟩ vs (fun j v hj => by rw [jh, Nat.zero_add]; simpa [World.cell?, h4] using hj)
 rw [grps_len h5, ← hsz] at hl
 have e1 : a.tmps.getD t undef = .pointer (some ⟨k, 0, none⟩) := by rw [Array.getD_eq_getD_getElem?, h1]; rfl
 have e2 : a.tmps.getD s undef = u := by rw [Array.getD_eq_getD_getElem?, h6]; rfl
 rw [results_eq, hr]
 simp [resF, e1, e2, asAddr, loadVar, run_isAggD hd, hag, run_size hinf, hl]
end
section
variable {csz : List Nat} {numc : List Bool} {okT : List Nat} {nt : Nat} {w0 : World} {a : Act} {w : World} {Q : Exit → Act → World → Prop}
theorem at_reL {csz' : List Nat} {numc' : List Bool} {okT' : List Nat} {cl cl' : List Cl} {is is' : List Item}
 (hA : At (mkC csz numc okT nt cl w0) is' a w) (l : List (Nat × Nat)) (h : ∀ p ∈ l, cl[p.2]? = cl'[p.1]?) (hz : cl[1000000]? = none) (hl : is' = is.map (Item.re (rOf l))) (hL : ∀ k ∈ (cl'.flatMap (·.L)).map (·.R), k ∈ (cl.flatMap (·.L)).map (·.R)) : At (mkC csz' numc' okT' nt cl' w0) is a w := by
 refine At.re (C := mkC csz numc okT nt cl w0) (C' := mkC csz' numc' okT' nt cl' w0) (r := rOf l) (fun c f hE => ?_) rfl hL rfl hl hA
 simp only [mkC] at hE ⊢
 split at hE
 · rename_i x hx
   rw [rOf_some hz h hx]
   exact hE
 · exact hE.elim
theorem rounds_at (N : Nat) (cl : Nat → List Cl) (is is' ie : List Item) (l : List (Nat × Nat)) {T T' : List Ent} {n id : Nat} {c : Code}
 (hC : ∀ i, (mkC csz numc okT nt (cl i) w0).Ok) (hT : ∀ i, i < N → ∀ t ∈ T, t.Valid (mkC csz numc okT nt (cl i) w0)) (hr : segB ⟨Tryz.prog, csz, numc, okT, nt⟩ T n c is .normal is' = true)
 (hre : ∀ i, i < N → ∀ p ∈ l, (cl i)[p.2]? = (cl (i + 1))[p.1]?) (hz : ∀ i, (cl i)[1000000]? = none) (hl : is' = is.map (Item.re (rOf l))) (hL : ∀ i, i < N → ∀ k ∈ ((cl (i + 1)).flatMap (·.L)).map (·.R), k ∈ ((cl i).flatMap (·.L)).map (·.R))
 (hT' : ∀ t ∈ T', t.Valid (mkC csz numc okT nt (cl N) w0)) (he : segB ⟨Tryz.prog, csz, numc, okT, nt⟩ T' n c is (.exit id) ie = true)
 (hA : At (mkC csz numc okT nt (cl 0) w0) is a w) (hQ : ∀ a' w', At (mkC csz numc okT nt (cl N) w0) ie a' w' → Q .normal a' w') : (Code.block id (.loop c)).wp Tryz.prog Q a w := by
 refine while_is (Θ := Nat) (fun i a w1 => i ≤ N ∧ At (mkC csz numc okT nt (cl i) w0) is a w1) (fun i => N - i) ?_ 0 ⟨Nat.zero_le _, hA⟩
 rintro i a w1 ⟨hi, hA⟩
 rcases Nat.lt_or_ge i N with hlt | hge
 · refine jf (hC i) (hT i hlt) hr hA (fun a' w' hA => ⟨i + 1, ⟨hlt, at_reL hA l (hre i hlt) (hz i) hl (hL i hlt)⟩, by show N - (i + 1) < N - i; omega⟩)
 · obtain rfl : i = N := by omega
   refine jf (hC i) hT' he hA (fun a' w' hA => ?_)
   simp only [Xt.to, Exit.then, Exit.inBlock, if_true]
   exact hQ a' w' hA
end
end Sym
end Go.Proofs.YtccabfblgjcboaaGreatDoor
