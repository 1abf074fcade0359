/- Package exact: SpSquare SpQuad SpQuadr SpMath SpAbs SpOver KnownMath KnownBox Known. -/
import Derived.Test.YtccabfblgjcboaaGreatDoorV21
import Derived.KernelRfl
set_option linter.all false

namespace Go.Proofs.YtccabfblgjcboaaGreatDoor
open Go Go.RowKit Go.Proofs Lim
theorem square1 (v : Value) (r : Rat) (k : Nat) (w : World) (h : cR w v r) (z : cF r k) (hk : (k : Int) ≤ 1073741824) (hG : Gr w) :
 Calls Tryz.prog 110 #[v] w (cX w (r * r)) := by
 have HT := Lib.hid (fun W (hW : Below w.heap.size w W) => times_q v v r r k W (h.below hW (Nat.le_refl _)) (h.below hW (Nat.le_refl _)) z z hk (hG.below hW hG.size))
 obtain ⟨s1, a1, b1, p1, rfl⟩ := h.form
 clear h z hk hG
 generalize r * r = t at *
 go_enter Tryz.func110, Tryz.ntmps110
 go_wp2_with fail
 obtain ⟨W0, hW0, hb0, hx0, hz⟩ := box2w w (.bool s1) (u a1) (u b1) (.pointer p1); rw [← hW0]; clear hW0; obtain ⟨f0, f1, f2, f3⟩ := hx0.cells; have HZ := Lib.hid hz; have HW0 := Lib.hid hb0; have hb0 := Below.refl W0.heap.size W0; clear hz hx0; have n1 : ¬ w.heap.size = w.heap.size + 1 := (by omega); have n2 : ¬ w.heap.size + 1 = w.heap.size := (by omega)
 refine (HT.out _ (cf HW0.out hb0)).mono ?_
 rintro e W9 ⟨v, rfl, hv, hb⟩
 have hb3 := cf hb0 hb
 have hv' := hv
 obtain ⟨sg9, a9, b9, p9, rfl⟩ := hv'.form
 have hz := HZ.out.below hb3 (Nat.le_refl _)
 have hfin := cX.stored (a0 := .bool sg9) (a1 := u a9) (a2 := u b9) (a3 := .pointer p9) hz hv (cf HW0.out hb3) (by omega)
 have HFin := Lib.hid hfin
 (have hz := HZ.out.below hb3 (Nat.le_refl _); have zf := hz.frozen; obtain ⟨z0, z1, z2, z3⟩ := hz.cells; have zf0 := zf 0; have zf1 := zf 1; have zf2 := zf 2; have zf3 := zf 3; clear zf hz)
 clear hfin hv hv' hb hb0 hb3 hz HT f0 f1 f2 f3
 go_wp2_with fail
 refine bodyPost_ret (v := .agg #[.bool sg9, u a9, u b9, .pointer p9]) (by simp [results, Tryz.results110, go_sem, z0, z1, z2, z3]) rfl ?_
 exact HFin.out
theorem siz_zero_bits {r : Rat} (k : Nat) (h : cF r k) : 1 ≤ k := by
 rcases Nat.eq_zero_or_pos k with e | e
 · subst e
   have := h.2
   have := r.den_pos
   rw [Nat.pow_zero] at *
   omega
 · exact e
theorem zero_val (w : World) : cR w (.agg #[.bool false, .int .u64 0, .int .u64 0, .pointer none]) 0 := Num.low 0 rfl rfl cO (show 1 < B by decide)
theorem square_any (v : Value) (lo hi : Rat) (k : Nat) (w : World) (h : IsS w v lo hi) (z1 : cF lo k) (z2 : cF hi k) (hk : ((k + k : Nat) : Int) ≤ 1073741824) (hG : Gr w) :
 Calls Tryz.prog 58 #[v] w (SpNew w (cJ (lo * lo) (cB (jv lo hi 0) (hi * hi) (0 * 0))) (cC (lo * lo) (cB (jv lo hi 0) (hi * hi) (0 * 0)))) := by
 have k1 := siz_zero_bits k z1
 have z0 : cF 0 k := cF.zero k k1
 obtain ⟨s1, a1, b1, p1, s2, a2, b2, p2, rfl, i1, i2⟩ := h
 have HU := Lib.hid (fun bt ct W (hW : Below w.heap.size w W) c0 c1 c2 c3 => under_one 110 #[] #[] (enters_of Tryz.func110 (by kernel_rfl) rfl) s1 s2 a1 b1 a2 b2 p1 p2 lo hi 0 (lo * lo) (hi * hi) (0 * 0) (k + k) W
  bt 0 ct false 0 0 none (i1.below hW (Nat.le_refl _)) (i2.below hW (Nat.le_refl _)) (zero_val W) c0 c1 c2 c3
  (fun W' hW' => square1 _ lo k W' ((i1.below hW (Nat.le_refl _)).below hW' (Nat.le_refl _)) z1 (by omega) ((hG.below hW hG.size).below hW' (Nat.le_trans hG.size hW.size)))
  (fun W' hW' => square1 _ hi k W' ((i2.below hW (Nat.le_refl _)).below hW' (Nat.le_refl _)) z2 (by omega) ((hG.below hW hG.size).below hW' (Nat.le_trans hG.size hW.size)))
  (fun _ W' hW' => square1 _ 0 k W' (zero_val W') z0 (by omega) ((hG.below hW hG.size).below hW' (Nat.le_trans hG.size hW.size)))
  (z1.le (by omega)) (z2.le (by omega)) (z0.le (by omega)) (z1.mul z1) (z2.mul z2) (fun _ => z0.mul z0) hk)
 clear i1 i2 z1 z2 z0 k1 hk hG
 generalize cJ (lo * lo) (cB (jv lo hi 0) (hi * hi) (0 * 0)) = l at *
 generalize cC (lo * lo) (cB (jv lo hi 0) (hi * hi) (0 * 0)) = g at *
 go_enter Tryz.func58, Tryz.ntmps58
 go_wp2_with fail
 obtain ⟨W0, hW0, hb0, _, hz, hs⟩ := box8z w (.bool s1) (u a1) (u b1) (.pointer p1) (.bool s2) (u a2) (u b2) (.pointer p2)
 rw [hW0]
 have hb1 := cu W0 (.cells #[.bool false, .int .u64 0, .int .u64 0, .pointer none] 26)
 rw [← hs]
 refine (HU.out _ 1 _ (cf hb0 hb1) (World.cell?_alloc_new ..) (World.cell?_alloc_new ..) (World.cell?_alloc_new ..) (World.cell?_alloc_new ..)).mono ?_
 rintro e W9 ⟨v, rfl, hv, hb⟩
 have hz9 : ZBox8 W9 (w.heap.size + 1) := cj.below (cj.below hz hb1 (Nat.le_refl _)) hb (Nat.le_refl _)
 have HB9 := Lib.hid (cf (cf hb0 hb1) hb)
 rw [hs]
 clear hb0 hz hs hW0 HU hb1
 (have hv' := hv; obtain ⟨t1, d1, e1, q1, t2, d2, e2, q2, rfl, _, _⟩ := hv'; have HFin := Lib.hid (SpNew.stored (cj.nbox hz9) hv HB9.out (by omega) (.bool t1) (u d1) (u e1) (.pointer q1) (.bool t2) (u d2) (u e2) (.pointer q2)); (obtain ⟨z0, z1, z2, z3, z4, z5, z6, z7⟩ := cj.cells hz9; have zf0 := cj.frozen hz9 0; have zf1 := cj.frozen hz9 1; have zf2 := cj.frozen hz9 2; have zf3 := cj.frozen hz9 3; have zf4 := cj.frozen hz9 4; have zf5 := cj.frozen hz9 5; have zf6 := cj.frozen hz9 6; have zf7 := cj.frozen hz9 7); clear hv hz9; clear hb; go_wp2_with fail; refine bodyPost_ret (v := .agg #[.bool t1, u d1, u e1, .pointer q1, .bool t2, u d2, u e2, .pointer q2]) (by simp [results, Tryz.results58, go_sem, z0, z1, z2, z3, z4, z5, z6, z7]) rfl ?_; exact HFin.out)
open Go Go.RowKit Go.Proofs Lim
def cw (a b c x : Rat) : Rat := (a * x + b) * x + c
structure Caught (w : World) (b1 b2 b3 : Nat) (s1 s2 s3 : Bool) (x1 y1 x2 y2 x3 y3 : Nat) (p1 p2 p3 : Option Addr) (a b c : Rat) : Prop where
 c1 : Box w b1 (.bool s1) (u x1) (u y1) (.pointer p1)
 c2 : Box w b2 (.bool s2) (u x2) (u y2) (.pointer p2)
 c3 : Box w b3 (.bool s3) (u x3) (u y3) (.pointer p3)
 q1 : cR w (.agg #[.bool s1, u x1, u y1, .pointer p1]) a
 q2 : cR w (.agg #[.bool s2, u x2, u y2, .pointer p2]) b
 q3 : cR w (.agg #[.bool s3, u x3, u y3, .pointer p3]) c
theorem Caught.below {w w' : World} {b1 b2 b3 : Nat} {s1 s2 s3 : Bool} {x1 y1 x2 y2 x3 y3 : Nat} {p1 p2 p3 : Option Addr} {a b c : Rat} {k : Nat} (h : Caught w b1 b2 b3 s1 s2 s3 x1 y1 x2 y2 x3 y3 p1 p2 p3 a b c) (hb : Below k w w') (hk : w.heap.size ≤ k) :
 Caught w' b1 b2 b3 s1 s2 s3 x1 y1 x2 y2 x3 y3 p1 p2 p3 a b c :=
 ⟨h.c1.below hb hk, h.c2.below hb hk, h.c3.below hb hk, h.q1.below hb hk, h.q2.below hb hk, h.q3.below hb hk⟩
set_option maxHeartbeats 1000000 in
theorem quad1 (v : Value) (b1 b2 b3 : Nat) (s1 s2 s3 : Bool) (x1 y1 x2 y2 x3 y3 : Nat) (p1 p2 p3 : Option Addr) (a b c x : Rat) (k : Nat) (w : World) (hc : Caught w b1 b2 b3 s1 s2 s3 x1 y1 x2 y2 x3 y3 p1 p2 p3 a b c) (h : cR w v x)
 (za : cF a k) (zb : cF b k) (zc : cF c k) (zx : cF x k) (hk : ((8 * k + 8 : Nat) : Int) ≤ 1073741824) (hG : Gr w) :
 Calls Tryz.prog 112 #[v, .pointer (some ⟨b1, 0, none⟩), .pointer (some ⟨b2, 0, none⟩), .pointer (some ⟨b3, 0, none⟩)] w (cX w (cw a b c x)) := by
 have w1 := za.mul zx
 have w2 := w1.add zb
 have w3 := (w2.le (show k + k + k + 1 ≤ 4 * k + 1 by omega)).mul (zx.le (show k ≤ 4 * k + 1 by omega))
 have HT1 := Lib.hid (fun W (hW : Below w.heap.size w W) => times_q _ v a x k W (hc.q1.below hW (Nat.le_refl _)) (h.below hW (Nat.le_refl _)) za zx (by omega) (hG.below hW hG.size))
 have HP1 := Lib.hid (fun y W (hy : cR W y (a * x)) (hW : Below w.heap.size w W) => plus_q y _ (a * x) b (k + k) W hy (hc.q2.below hW (Nat.le_refl _)) w1 (zb.le (by omega)) (by omega) (hG.below hW hG.size))
 have HT2 := Lib.hid (fun y W (hy : cR W y (a * x + b)) (hW : Below w.heap.size w W) => times_q y v (a * x + b) x (k + k + k + 1) W hy (h.below hW (Nat.le_refl _)) w2 (zx.le (by omega)) (by omega) (hG.below hW hG.size))
 have w3' := w2.mul zx
 have HP2 := Lib.hid (fun y W (hy : cR W y ((a * x + b) * x)) (hW : Below w.heap.size w W) => plus_q y _ ((a * x + b) * x) c (k + k + k + 1 + k) W hy (hc.q3.below hW (Nat.le_refl _)) w3' (zc.le (by omega)) (by omega) (hG.below hW hG.size))
 obtain ⟨s, d, e, p, rfl⟩ := h.form
 have HC := Lib.hid hc
 unfold cw
 have m1 : b1 < w.heap.size := (Array.getElem?_eq_some_iff.1 hc.c1).1
 have m2 : b2 < w.heap.size := (Array.getElem?_eq_some_iff.1 hc.c2).1
 have m3 : b3 < w.heap.size := (Array.getElem?_eq_some_iff.1 hc.c3).1
 clear h hc w1 w2 w3 w3' za zb zc zx hk hG
 generalize a * x = r1 at *
 generalize r1 + b = r2 at *
 generalize r2 * x = r3 at *
 generalize r3 + c = r4 at *
 go_enter Tryz.func112, Tryz.ntmps112
 go_wp2_with fail
 obtain ⟨W0, hW0, hb0, hx0, hz⟩ := box2w w (.bool s) (u d) (u e) (.pointer p); rw [← hW0]; clear hW0; obtain ⟨f0, f1, f2, f3⟩ := hx0.cells; have HZ := Lib.hid hz; have HW0 := Lib.hid hb0; have hb0 := Below.refl W0.heap.size W0; clear hz hx0; have n1 : ¬ w.heap.size = w.heap.size + 1 := (by omega); have n2 : ¬ w.heap.size + 1 = w.heap.size := (by omega)
 have hc0 := HC.out.below HW0.out (Nat.le_refl _)
 have HC0 := Lib.hid hc0
 obtain ⟨g0, g1, g2, g3⟩ := hc0.c1.cells
 obtain ⟨h0, h1, h2, h3⟩ := hc0.c2.cells
 obtain ⟨i0, i1, i2, i3⟩ := hc0.c3.cells
 clear hc0
 have n3 : ¬ b1 = w.heap.size + 1 := by omega
 have n4 : ¬ w.heap.size + 1 = b1 := by omega
 have n5 : ¬ b2 = w.heap.size + 1 := by omega
 have n6 : ¬ w.heap.size + 1 = b2 := by omega
 have n7 : ¬ b3 = w.heap.size + 1 := by omega
 have n8 : ¬ w.heap.size + 1 = b3 := by omega
 go_region_held3 (fun w' => (w'.cell? ⟨w.heap.size, 0, none⟩ = some (.bool s) ∧ w'.cell? ⟨w.heap.size, 1, none⟩ = some (u d) ∧ w'.cell? ⟨w.heap.size, 2, none⟩ = some (u e) ∧ w'.cell? ⟨w.heap.size, 3, none⟩ = some (.pointer p)) ∧ (w'.cell? ⟨b1, 0, none⟩ = some (.bool s1) ∧ w'.cell? ⟨b1, 1, none⟩ = some (u x1) ∧ w'.cell? ⟨b1, 2, none⟩ = some (u y1) ∧ w'.cell? ⟨b1, 3, none⟩ = some (.pointer p1)) ∧ (w'.cell? ⟨b2, 0, none⟩ = some (.bool s2) ∧ w'.cell? ⟨b2, 1, none⟩ = some (u x2) ∧ w'.cell? ⟨b2, 2, none⟩ = some (u y2) ∧ w'.cell? ⟨b2, 3, none⟩ = some (.pointer p2)) ∧ (w'.cell? ⟨b3, 0, none⟩ = some (.bool s3) ∧ w'.cell? ⟨b3, 1, none⟩ = some (u x3) ∧ w'.cell? ⟨b3, 2, none⟩ = some (u y3) ∧ w'.cell? ⟨b3, 3, none⟩ = some (.pointer p3))) (go_keep) (first | ((with_reducible refine (HT1.out _ HW0.out.drew).mono ?_); rintro e W1 ⟨v1, rfl, hv1, hb⟩; obtain ⟨_, _, _, _, rfl⟩ := hv1.form; (have hh := cq (b := w.heap.size) hb f0 f1 f2 f3; clear f0 f1 f2 f3; obtain ⟨f0, f1, f2, f3⟩ := hh); have hb0 : Below W0.heap.size W0 W1 := (by first | exact cI hb0 hb | exact cf hb0 hb); have hcc := HC0.out.below hb0 (Nat.le_refl _); clear g0 g1 g2 g3 h0 h1 h2 h3 i0 i1 i2 i3; obtain ⟨g0, g1, g2, g3⟩ := hcc.c1.cells; obtain ⟨h0, h1, h2, h3⟩ := hcc.c2.cells; obtain ⟨i0, i1, i2, i3⟩ := hcc.c3.cells; clear hcc hb) | ((with_reducible refine (HP1.out _ _ hv1 (cf HW0.out hb0)).mono ?_); rintro e W2 ⟨v2, rfl, hv2, hb⟩; obtain ⟨_, _, _, _, rfl⟩ := hv2.form; (have hh := cq (b := w.heap.size) hb f0 f1 f2 f3; clear f0 f1 f2 f3; obtain ⟨f0, f1, f2, f3⟩ := hh); have hb0 : Below W0.heap.size W0 W2 := (by first | exact cI hb0 hb | exact cf hb0 hb); have hcc := HC0.out.below hb0 (Nat.le_refl _); clear g0 g1 g2 g3 h0 h1 h2 h3 i0 i1 i2 i3; obtain ⟨g0, g1, g2, g3⟩ := hcc.c1.cells; obtain ⟨h0, h1, h2, h3⟩ := hcc.c2.cells; obtain ⟨i0, i1, i2, i3⟩ := hcc.c3.cells; clear hcc hb) | ((with_reducible refine (HT2.out _ _ hv2 (cf HW0.out hb0)).mono ?_); rintro e W3 ⟨v3, rfl, hv3, hb⟩; obtain ⟨_, _, _, _, rfl⟩ := hv3.form; (have hh := cq (b := w.heap.size) hb f0 f1 f2 f3; clear f0 f1 f2 f3; obtain ⟨f0, f1, f2, f3⟩ := hh); have hb0 : Below W0.heap.size W0 W3 := (by first | exact cI hb0 hb | exact cf hb0 hb); have hcc := HC0.out.below hb0 (Nat.le_refl _); clear g0 g1 g2 g3 h0 h1 h2 h3 i0 i1 i2 i3; obtain ⟨g0, g1, g2, g3⟩ := hcc.c1.cells; obtain ⟨h0, h1, h2, h3⟩ := hcc.c2.cells; obtain ⟨i0, i1, i2, i3⟩ := hcc.c3.cells; clear hcc hb) | ((with_reducible refine (HP2.out _ _ hv3 (cf HW0.out hb0)).mono ?_); rintro e W4 ⟨v4, rfl, hv4, hb⟩; have hv' := hv4; obtain ⟨sg9, a9, b9, p9, rfl⟩ := hv'.form; (have hh := cq (b := w.heap.size) hb f0 f1 f2 f3; clear f0 f1 f2 f3; obtain ⟨f0, f1, f2, f3⟩ := hh); have hb0 : Below W0.heap.size W0 W4 := (by first | exact cI hb0 hb | exact cf hb0 hb); have hcc := HC0.out.below hb0 (Nat.le_refl _); clear g0 g1 g2 g3 h0 h1 h2 h3 i0 i1 i2 i3; obtain ⟨g0, g1, g2, g3⟩ := hcc.c1.cells; obtain ⟨h0, h1, h2, h3⟩ := hcc.c2.cells; obtain ⟨i0, i1, i2, i3⟩ := hcc.c3.cells; clear hcc hb; (have hz := HZ.out.below hb0 (Nat.le_refl _); have zf := hz.frozen; obtain ⟨z0, z1, z2, z3⟩ := hz.cells; have zf0 := zf 0; have zf1 := zf 1; have zf2 := zf 2; have zf3 := zf 3; clear zf hz)))
 have hz := HZ.out.below hb0 (Nat.le_refl _)
 have hfin := cX.stored (a0 := .bool sg9) (a1 := u a9) (a2 := u b9) (a3 := .pointer p9) hz hv4 (cf HW0.out hb0) (by omega)
 have HFin := Lib.hid hfin
 clear hfin hv1 hv2 hv3 hv4 hv' hb0 hz f0 f1 f2 f3 g0 g1 g2 g3 h0 h1 h2 h3 i0 i1 i2 i3
 go_wp2_with fail
 refine bodyPost_ret (v := .agg #[.bool sg9, u a9, u b9, .pointer p9]) (by simp [results, Tryz.results112, go_sem, z0, z1, z2, z3]) rfl ?_
 exact HFin.out
open Go Go.RowKit Go.Proofs Lim
def cV (a b : Rat) : Rat := -b * (a + a)⁻¹
def cK (a b c lo hi : Rat) : List Rat := if a.num = 0 then [cw a b c hi] else cB (jv lo hi (cV a b)) (cw a b c hi) (cw a b c (cV a b))
theorem box38z (w : World) (a0 a1 a2 a3 b0 b1 b2 b3 c0 c1 c2 c3 d0 d1 d2 d3 d4 d5 d6 d7 : Value) : ∃ W, ((((w.alloc (.cells #[a0, a1, a2, a3] 26)).alloc (.cells #[b0, b1, b2, b3] 26)).alloc (.cells #[c0, c1, c2, c3] 26)).alloc (.cells #[d0, d1, d2, d3, d4, d5, d6, d7] 66)).alloc (.cells #[.bool false, .int .u64 0, .int .u64 0, .pointer none, .bool false, .int .u64 0, .int .u64 0, .pointer none] 66) = W ∧
 Below w.heap.size w W ∧ Box W w.heap.size a0 a1 a2 a3 ∧ Box W (w.heap.size + 1) b0 b1 b2 b3 ∧ Box W (w.heap.size + 1 + 1) c0 c1 c2 c3 ∧ cj W (w.heap.size + 1 + 1 + 1) d0 d1 d2 d3 d4 d5 d6 d7 ∧ ZBox8 W (w.heap.size + 1 + 1 + 1 + 1) ∧ W.heap.size = w.heap.size + 1 + 1 + 1 + 1 + 1 := by
 obtain ⟨W1, hW1, hb1, h1, h2, hs1⟩ := box2b w a0 a1 a2 a3 b0 b1 b2 b3
 have hb2 := cu W1 (.cells #[c0, c1, c2, c3] 26)
 have h3 : Box _ W1.heap.size c0 c1 c2 c3 := heap_alloc_new W1 (.cells #[c0, c1, c2, c3] 26)
 have hs2 : (W1.alloc (.cells #[c0, c1, c2, c3] 26)).heap.size = w.heap.size + 1 + 1 + 1 := by rw [World.size_alloc, hs1]
 rw [hs1] at h3
 rw [hW1]
 generalize W1.alloc (.cells #[c0, c1, c2, c3] 26) = W2 at *
 obtain ⟨W3, hW3, hb3, h4, h5, hs3⟩ := box8z W2 d0 d1 d2 d3 d4 d5 d6 d7
 rw [hs2] at h4 h5 hs3
 exact ⟨W3, hW3, cf (cf hb1 hb2) hb3, (h1.below hb2 (Nat.le_refl _)).below hb3 (Nat.le_refl _), (h2.below hb2 (Nat.le_refl _)).below hb3 (Nat.le_refl _), h3.below hb3 (Nat.le_refl _), h4, h5, hs3⟩
theorem quad_siz {a b c x : Rat} {k : Nat} (za : cF a k) (zb : cF b k) (zc : cF c k) (zx : cF x k) : cF (cw a b c x) (5 * k + 2) :=
 (((((za.mul zx).add zb).mul zx).add zc)).le (by omega)
theorem turn_siz {a b : Rat} {k : Nat} (za : cF a k) (zb : cF b k) (h : (a + a).num ≠ 0) : cF (cV a b) (3 * k + 1) :=
 (zb.neg.mul ((za.add za).inv h)).le (by omega)
theorem double_ne {a : Rat} (h : a.num ≠ 0) : (a + a).num ≠ 0 := by
 intro e
 have h2 : a + a = 0 := Rat.num_eq_zero.1 e
 have h3 : a * 2 = 0 := by
  rw [← h2]
  grind
 rcases Rat.mul_eq_zero.1 h3 with h4 | h4
 · exact h (by rw [h4]; rfl)
 · exact absurd h4 (by decide)
set_option maxHeartbeats 2000000 in
theorem quadratic_any (va vb vc vs : Value) (a b c lo hi : Rat) (k : Nat) (w : World) (ha : cR w va a) (hb : cR w vb b) (hc : cR w vc c) (hs : IsS w vs lo hi)
 (za : cF a k) (zb : cF b k) (zc : cF c k) (zl : cF lo k) (zh : cF hi k) (hk : ((100 * k + 100 : Nat) : Int) ≤ 1073741824) (hG : Gr w) :
 Calls Tryz.prog 70 #[va, vb, vc, vs] w (SpNew w (cJ (cw a b c lo) (cK a b c lo hi)) (cC (cw a b c lo) (cK a b c lo hi))) := by
 obtain ⟨s1, x1, y1, p1, rfl⟩ := ha.form
 obtain ⟨s2, x2, y2, p2, rfl⟩ := hb.form
 obtain ⟨s3, x3, y3, p3, rfl⟩ := hc.form
 obtain ⟨s4, x4, y4, p4, s5, x5, y5, p5, rfl, hl, hh⟩ := hs
 have HQ := Lib.hid (fun W (hW : Below w.heap.size w W) (e1 : Box W w.heap.size (.bool s1) (u x1) (u y1) (.pointer p1)) (e2 : Box W (w.heap.size + 1) (.bool s2) (u x2) (u y2) (.pointer p2)) (e3 : Box W (w.heap.size + 1 + 1) (.bool s3) (u x3) (u y3) (.pointer p3)) =>
  (⟨e1, e2, e3, ha.below hW (Nat.le_refl _), hb.below hW (Nat.le_refl _), hc.below hW (Nat.le_refl _)⟩ : Caught W w.heap.size (w.heap.size + 1) (w.heap.size + 1 + 1) s1 s2 s3 x1 y1 x2 y2 x3 y3 p1 p2 p3 a b c))
 have HF := Lib.hid (fun v x j W (hca : Caught W w.heap.size (w.heap.size + 1) (w.heap.size + 1 + 1) s1 s2 s3 x1 y1 x2 y2 x3 y3 p1 p2 p3 a b c) (hv : cR W v x) (zx : cF x j) (hj : k ≤ j) (hj2 : j ≤ 3 * k + 1) (hW : Below w.heap.size w W) =>
  quad1 v w.heap.size (w.heap.size + 1) (w.heap.size + 1 + 1) s1 s2 s3 x1 y1 x2 y2 x3 y3 p1 p2 p3 a b c x j W hca hv (za.le hj) (zb.le hj) (zc.le hj) zx (by omega) (hG.below hW hG.size))
 have HSg := Lib.hid (fun W (hW : Below w.heap.size w W) => sign_q _ a W (ha.below hW (Nat.le_refl _)))
 have HL := Lib.hid (And.intro hl hh)
 by_cases h0 : a.num = 0
 · have hv : cK a b c lo hi = [cw a b c hi] := by unfold cK; rw [if_pos h0]
   rw [hv]
   have HU := Lib.hid (fun W W0 (hW : Below w.heap.size w W) (hca : Caught W w.heap.size (w.heap.size + 1) (w.heap.size + 1 + 1) s1 s2 s3 x1 y1 x2 y2 x3 y3 p1 p2 p3 a b c) (_ : W0 = W) =>
    under_none 112 #[] #[.pointer (some ⟨w.heap.size, 0, none⟩), .pointer (some ⟨w.heap.size + 1, 0, none⟩), .pointer (some ⟨w.heap.size + 1 + 1, 0, none⟩)] (enters_of Tryz.func112 (by kernel_rfl) rfl) s4 s5 x4 y4 x5 y5 p4 p5 (cw a b c lo) (cw a b c hi) 0 (5 * k + 2) W
    (fun W' hW' => HF.out _ lo k W' (hca.below hW' (Nat.le_refl _)) ((hl.below hW (Nat.le_refl _)).below hW' (Nat.le_refl _)) zl (Nat.le_refl _) (by omega) (hW.trans (hW'.mono hW.size)))
    (fun W' hW' => HF.out _ hi k W' (hca.below hW' (Nat.le_refl _)) ((hh.below hW (Nat.le_refl _)).below hW' (Nat.le_refl _)) zh (Nat.le_refl _) (by omega) (hW.trans (hW'.mono hW.size)))
    (quad_siz za zb zc zl) (quad_siz za zb zc zh) (by omega))
   have hsg : ((sign a : Int) == 0) = true := by unfold sign; rw [if_pos h0]; rfl
   clear ha hb hc hl hh hG za zb zc zl zh hk hv h0 HF
   generalize cw a b c lo = l at *
   generalize cw a b c hi = g at *
   generalize cJ l [g] = lw at *
   generalize cC l [g] = hg at *
   generalize sign a = sv at *
   go_enter Tryz.func70, Tryz.ntmps70
   go_wp2_with fail
   obtain ⟨W0, hW0, hb0, e1, e2, e3, e4, hz, hs⟩ := box38z w (.bool s1) (u x1) (u y1) (.pointer p1) (.bool s2) (u x2) (u y2) (.pointer p2) (.bool s3) (u x3) (u y3) (.pointer p3) (.bool s4) (u x4) (u y4) (.pointer p4) (.bool s5) (u x5) (u y5) (.pointer p5)
   rw [hW0]
   have HCa := Lib.hid (HQ.out W0 hb0 e1 e2 e3)
   refine (HSg.out _ hb0).mono ?_
   rintro e W1 ⟨rfl, hbb⟩
   have HCa := Lib.hid (HCa.out.below hbb (Nat.le_refl _))
   have HB1 := Lib.hid (cf hb0 hbb)
   have hX := cj.below e4 hbb (Nat.le_refl _)
   have HZ := Lib.hid (cj.below hz hbb (Nat.le_refl _))
   (obtain ⟨c0, c1, c2, c3, c4, c5, c6, c7⟩ := hX.cells)
   clear hX hbb hb0 e1 e2 e3 e4 hz hs hW0 HSg HQ
   go_wp2_with fail
   refine (HU.out _ _ HB1.out HCa.out rfl).mono ?_
   rintro e W9 ⟨v, rfl, hv, hb⟩
   have hz9 : ZBox8 W9 (w.heap.size + 1 + 1 + 1 + 1) := cj.below HZ.out hb (Nat.le_refl _)
   have HB9 := Lib.hid (cf HB1.out hb)
   clear HZ HB1 HCa HU c0 c1 c2 c3 c4 c5 c6 c7
   (have hv' := hv; obtain ⟨t1, d1, e1, q1, t2, d2, e2, q2, rfl, _, _⟩ := hv'; have HFin := Lib.hid (SpNew.stored (cj.nbox hz9) hv HB9.out (by omega) (.bool t1) (u d1) (u e1) (.pointer q1) (.bool t2) (u d2) (u e2) (.pointer q2)); (obtain ⟨z0, z1, z2, z3, z4, z5, z6, z7⟩ := cj.cells hz9; have zf0 := cj.frozen hz9 0; have zf1 := cj.frozen hz9 1; have zf2 := cj.frozen hz9 2; have zf3 := cj.frozen hz9 3; have zf4 := cj.frozen hz9 4; have zf5 := cj.frozen hz9 5; have zf6 := cj.frozen hz9 6; have zf7 := cj.frozen hz9 7); clear hv hz9; clear hb; go_wp2_with fail; refine bodyPost_ret (v := .agg #[.bool t1, u d1, u e1, .pointer q1, .bool t2, u d2, u e2, .pointer q2]) (by simp [results, Tryz.results70, go_sem, z0, z1, z2, z3, z4, z5, z6, z7]) rfl ?_; exact HFin.out)
 · have hv : cK a b c lo hi = cB (jv lo hi (cV a b)) (cw a b c hi) (cw a b c (cV a b)) := by unfold cK; rw [if_neg h0]
   rw [hv]
   have hd := double_ne h0
   have zt := turn_siz za zb hd
   have HU := Lib.hid (fun bt ct s6 x6 y6 p6 W (hW : Below w.heap.size w W) (hca : Caught W w.heap.size (w.heap.size + 1) (w.heap.size + 1 + 1) s1 s2 s3 x1 y1 x2 y2 x3 y3 p1 p2 p3 a b c) (ht : cR W (.agg #[.bool s6, u x6, u y6, .pointer p6]) (cV a b)) c0 c1 c2 c3 =>
    under_one 112 #[] #[.pointer (some ⟨w.heap.size, 0, none⟩), .pointer (some ⟨w.heap.size + 1, 0, none⟩), .pointer (some ⟨w.heap.size + 1 + 1, 0, none⟩)] (enters_of Tryz.func112 (by kernel_rfl) rfl) s4 s5 x4 y4 x5 y5 p4 p5 lo hi (cV a b) (cw a b c lo) (cw a b c hi) (cw a b c (cV a b)) (5 * (3 * k + 1) + 2) W
    bt 0 ct s6 x6 y6 p6 (hl.below hW (Nat.le_refl _)) (hh.below hW (Nat.le_refl _)) ht c0 c1 c2 c3
    (fun W' hW' => HF.out _ lo k W' (hca.below hW' (Nat.le_refl _)) ((hl.below hW (Nat.le_refl _)).below hW' (Nat.le_refl _)) zl (Nat.le_refl _) (by omega) (hW.trans (hW'.mono hW.size)))
    (fun W' hW' => HF.out _ hi k W' (hca.below hW' (Nat.le_refl _)) ((hh.below hW (Nat.le_refl _)).below hW' (Nat.le_refl _)) zh (Nat.le_refl _) (by omega) (hW.trans (hW'.mono hW.size)))
    (fun _ W' hW' => HF.out _ (cV a b) (3 * k + 1) W' (hca.below hW' (Nat.le_refl _)) (ht.below hW' (Nat.le_refl _)) zt (by omega) (Nat.le_refl _) (hW.trans (hW'.mono hW.size)))
    (zl.le (by omega)) (zh.le (by omega)) (zt.le (by omega)) ((quad_siz za zb zc zl).le (by omega)) ((quad_siz za zb zc zh).le (by omega)) (fun _ => quad_siz (za.le (by omega)) (zb.le (by omega)) (zc.le (by omega)) zt) (by omega))
   have HN := Lib.hid (fun W (hW : Below w.heap.size w W) => neg_q _ b W (hb.below hW (Nat.le_refl _)))
   have HP := Lib.hid (fun W (hW : Below w.heap.size w W) => plus_q _ _ a a k W (ha.below hW (Nat.le_refl _)) (ha.below hW (Nat.le_refl _)) za za (by omega) (hG.below hW hG.size))
   have HR := Lib.hid (fun v W (hv : cR W v (a + a)) => recip_q v _ W hv hd)
   have HT := Lib.hid (fun v1 v2 W (h1 : cR W v1 (-b)) (h2 : cR W v2 (a + a)⁻¹) (hW : Below w.heap.size w W) => show Calls Tryz.prog 29 #[v1, v2] W (cX W (cV a b)) from times_q v1 v2 (-b) (a + a)⁻¹ (k + k + 1) W h1 h2 (zb.neg.le (by omega)) ((za.add za).inv hd) (by omega) (hG.below hW hG.size))
   have hsg : ((sign a : Int) == 0) = false := by unfold sign; rw [if_neg h0]; split <;> rfl
   clear ha hb hc hl hh hG za zb zc zl zh hk hv h0 HF zt hd
   generalize cV a b = t at *
   generalize jv lo hi t = hq at *
   generalize cw a b c lo = l at *
   generalize cw a b c hi = g at *
   generalize cw a b c t = g2 at *
   generalize cJ l (cB hq g g2) = lw at *
   generalize cC l (cB hq g g2) = hg at *
   generalize sign a = sv at *
   generalize (a + a)⁻¹ = ri at *
   generalize a + a = aa at *
   generalize -b = nb at *
   go_enter Tryz.func70, Tryz.ntmps70
   go_wp2_with fail
   obtain ⟨W0, hW0, hb0, e1, e2, e3, e4, hz, hs⟩ := box38z w (.bool s1) (u x1) (u y1) (.pointer p1) (.bool s2) (u x2) (u y2) (.pointer p2) (.bool s3) (u x3) (u y3) (.pointer p3) (.bool s4) (u x4) (u y4) (.pointer p4) (.bool s5) (u x5) (u y5) (.pointer p5)
   rw [hW0]
   have HCa := Lib.hid (HQ.out W0 hb0 e1 e2 e3)
   refine (HSg.out _ hb0).mono ?_
   rintro e W1 ⟨rfl, hbb⟩
   have HCa := Lib.hid (HCa.out.below hbb (Nat.le_refl _))
   have HB1 := Lib.hid (cf hb0 hbb)
   have hX := cj.below e4 hbb (Nat.le_refl _)
   have HX := Lib.hid hX
   have HZ := Lib.hid (cj.below hz hbb (Nat.le_refl _))
   have HC1 := Lib.hid HCa.out.c1
   have HC2 := Lib.hid HCa.out.c2
   obtain ⟨g0, g1, g2', g3⟩ := HC1.out.cells
   obtain ⟨h0, h1, h2, h3⟩ := HC2.out.cells
   (obtain ⟨c0, c1, c2, c3, c4, c5, c6, c7⟩ := hX.cells)
   have n1 : ¬ w.heap.size = w.heap.size + 1 + 1 + 1 + 1 := by omega
   have n2 : ¬ w.heap.size + 1 + 1 + 1 + 1 = w.heap.size := by omega
   have n3 : ¬ w.heap.size + 1 = w.heap.size + 1 + 1 + 1 + 1 := by omega
   have n4 : ¬ w.heap.size + 1 + 1 + 1 + 1 = w.heap.size + 1 := by omega
   have n5 : ¬ w.heap.size + 1 + 1 + 1 = w.heap.size + 1 + 1 + 1 + 1 := by omega
   have n6 : ¬ w.heap.size + 1 + 1 + 1 + 1 = w.heap.size + 1 + 1 + 1 := by omega
   have n7 : ¬ w.heap.size = w.heap.size + 1 + 1 + 1 := by omega
   have n8 : ¬ w.heap.size + 1 + 1 + 1 = w.heap.size := by omega
   clear hX hbb hb0 e1 e2 e3 e4 hz hs hW0 HSg HQ
   have hb0 := Below.refl W1.heap.size W1
   go_wp2_with fail
   go_region_held3 (fun w' => (w'.cell? ⟨w.heap.size, 0, none⟩ = some (.bool s1) ∧ w'.cell? ⟨w.heap.size, 1, none⟩ = some (u x1) ∧ w'.cell? ⟨w.heap.size, 2, none⟩ = some (u y1) ∧ w'.cell? ⟨w.heap.size, 3, none⟩ = some (.pointer p1)) ∧ (w'.cell? ⟨w.heap.size + 1, 0, none⟩ = some (.bool s2) ∧ w'.cell? ⟨w.heap.size + 1, 1, none⟩ = some (u x2) ∧ w'.cell? ⟨w.heap.size + 1, 2, none⟩ = some (u y2) ∧ w'.cell? ⟨w.heap.size + 1, 3, none⟩ = some (.pointer p2)) ∧ (w'.cell? ⟨w.heap.size + 1 + 1 + 1, 0, none⟩ = some (.bool s4) ∧ w'.cell? ⟨w.heap.size + 1 + 1 + 1, 1, none⟩ = some (u x4) ∧ w'.cell? ⟨w.heap.size + 1 + 1 + 1, 2, none⟩ = some (u y4) ∧ w'.cell? ⟨w.heap.size + 1 + 1 + 1, 3, none⟩ = some (.pointer p4) ∧ w'.cell? ⟨w.heap.size + 1 + 1 + 1, 4, none⟩ = some (.bool s5) ∧ w'.cell? ⟨w.heap.size + 1 + 1 + 1, 5, none⟩ = some (u x5) ∧ w'.cell? ⟨w.heap.size + 1 + 1 + 1, 6, none⟩ = some (u y5) ∧ w'.cell? ⟨w.heap.size + 1 + 1 + 1, 7, none⟩ = some (.pointer p5))) (go_keep) (first | ((with_reducible refine (HN.out _ HB1.out.drew).mono ?_); rintro e W2 ⟨v2, rfl, hv2, hb⟩; obtain ⟨_, _, _, _, rfl⟩ := hv2.form; have hb0 : Below W1.heap.size W1 W2 := (by first | exact cI hb0 hb | exact cf hb0 hb); clear g0 g1 g2' g3 h0 h1 h2 h3 c0 c1 c2 c3 c4 c5 c6 c7; obtain ⟨g0, g1, g2', g3⟩ := (HC1.out.below hb0 (Nat.le_refl _)).cells; obtain ⟨h0, h1, h2, h3⟩ := (HC2.out.below hb0 (Nat.le_refl _)).cells; have hX := cj.below HX.out hb0 (Nat.le_refl _); (obtain ⟨c0, c1, c2, c3, c4, c5, c6, c7⟩ := hX.cells); clear hX hb) | ((with_reducible refine (HP.out _ (cf HB1.out hb0)).mono ?_); rintro e W3 ⟨v3, rfl, hv3, hb⟩; obtain ⟨_, _, _, _, rfl⟩ := hv3.form; have hv2 := hv2.below hb (Nat.le_refl _); have hb0 : Below W1.heap.size W1 W3 := (by first | exact cI hb0 hb | exact cf hb0 hb); clear g0 g1 g2' g3 h0 h1 h2 h3 c0 c1 c2 c3 c4 c5 c6 c7; obtain ⟨g0, g1, g2', g3⟩ := (HC1.out.below hb0 (Nat.le_refl _)).cells; obtain ⟨h0, h1, h2, h3⟩ := (HC2.out.below hb0 (Nat.le_refl _)).cells; have hX := cj.below HX.out hb0 (Nat.le_refl _); (obtain ⟨c0, c1, c2, c3, c4, c5, c6, c7⟩ := hX.cells); clear hX hb) | ((with_reducible refine (HR.out _ _ hv3).mono ?_); rintro e W4 ⟨v4, rfl, hv4, hb⟩; obtain ⟨_, _, _, _, rfl⟩ := hv4.form; have hv2 := hv2.below hb (Nat.le_refl _); have hb0 : Below W1.heap.size W1 W4 := (by first | exact cI hb0 hb | exact cf hb0 hb); clear g0 g1 g2' g3 h0 h1 h2 h3 c0 c1 c2 c3 c4 c5 c6 c7; obtain ⟨g0, g1, g2', g3⟩ := (HC1.out.below hb0 (Nat.le_refl _)).cells; obtain ⟨h0, h1, h2, h3⟩ := (HC2.out.below hb0 (Nat.le_refl _)).cells; have hX := cj.below HX.out hb0 (Nat.le_refl _); (obtain ⟨c0, c1, c2, c3, c4, c5, c6, c7⟩ := hX.cells); clear hX hb) | ((with_reducible refine (HT.out _ _ _ hv2 hv4 (cf HB1.out hb0)).mono ?_); rintro e W5 ⟨v5, rfl, hv5, hb⟩; obtain ⟨s6, x6, y6, p6, rfl⟩ := hv5.form; have hb0 : Below W1.heap.size W1 W5 := (by first | exact cI hb0 hb | exact cf hb0 hb); clear g0 g1 g2' g3 h0 h1 h2 h3 c0 c1 c2 c3 c4 c5 c6 c7; obtain ⟨g0, g1, g2', g3⟩ := (HC1.out.below hb0 (Nat.le_refl _)).cells; obtain ⟨h0, h1, h2, h3⟩ := (HC2.out.below hb0 (Nat.le_refl _)).cells; have hX := cj.below HX.out hb0 (Nat.le_refl _); (obtain ⟨c0, c1, c2, c3, c4, c5, c6, c7⟩ := hX.cells); clear hX hb) | ((with_reducible refine (HU.out _ 1 _ _ _ _ _ (cf (cf HB1.out hb0) (cu W5 _)) (HCa.out.below (cf hb0 (cu W5 _)) (Nat.le_refl _)) (hv5.below (cu W5 _) (Nat.le_refl _)) (World.cell?_alloc_new ..) (World.cell?_alloc_new ..) (World.cell?_alloc_new ..) (World.cell?_alloc_new ..)).mono ?_); rintro e W9 ⟨v, rfl, hv, hb'⟩; have hb := cf (cu W5 _) hb'; clear hb'; have hb0 : Below W1.heap.size W1 W9 := (by first | exact cI hb0 hb | exact cf hb0 hb); clear g0 g1 g2' g3 h0 h1 h2 h3 c0 c1 c2 c3 c4 c5 c6 c7; obtain ⟨g0, g1, g2', g3⟩ := (HC1.out.below hb0 (Nat.le_refl _)).cells; obtain ⟨h0, h1, h2, h3⟩ := (HC2.out.below hb0 (Nat.le_refl _)).cells; have hX := cj.below HX.out hb0 (Nat.le_refl _); (obtain ⟨c0, c1, c2, c3, c4, c5, c6, c7⟩ := hX.cells); clear hX hb; have hv' := hv; obtain ⟨t1, d1, e1, q1, t2, d2, e2, q2, rfl, _, _⟩ := hv'; have hz9 := cj.below HZ.out hb0 (Nat.le_refl _); (obtain ⟨z0, z1, z2, z3, z4, z5, z6, z7⟩ := cj.cells hz9; have zf0 := cj.frozen hz9 0; have zf1 := cj.frozen hz9 1; have zf2 := cj.frozen hz9 2; have zf3 := cj.frozen hz9 3; have zf4 := cj.frozen hz9 4; have zf5 := cj.frozen hz9 5; have zf6 := cj.frozen hz9 6; have zf7 := cj.frozen hz9 7)))
   have HFin := Lib.hid (SpNew.stored (cj.nbox hz9) hv (cf HB1.out hb0) (by omega) (.bool t1) (u d1) (u e1) (.pointer q1) (.bool t2) (u d2) (u e2) (.pointer q2))
   clear hv hz9 hb0 hv2 hv3 hv4 hv5 c0 c1 c2 c3 c4 c5 c6 c7 g0 g1 g2' g3 h0 h1 h2 h3
   go_wp2_with fail
   refine bodyPost_ret (v := .agg #[.bool t1, u d1, u e1, .pointer q1, .bool t2, u d2, u e2, .pointer q2]) (by simp [results, Tryz.results70, go_sem, z0, z1, z2, z3, z4, z5, z6, z7]) rfl ?_
   exact HFin.out
open Go Go.RowKit Go.Proofs Lim
theorem lowOf_le_head (r : Rat) (rs : List Rat) : cJ r rs ≤ r := by
 induction rs generalizing r with
 | nil => exact Rat.le_refl
 | cons x rs ih =>
  show cJ (if x < r then x else r) rs ≤ r
  refine Rat.le_trans (ih _) ?_
  split
  · rename_i h; exact Rat.le_of_lt h
  · exact Rat.le_refl
theorem lowOf_le_mem {r : Rat} {rs : List Rat} {x : Rat} (h : x ∈ rs) : cJ r rs ≤ x := by
 induction rs generalizing r with
 | nil => cases h
 | cons y rs ih =>
  show cJ (if y < r then y else r) rs ≤ x
  rcases List.mem_cons.1 h with rfl | h
  · refine Rat.le_trans (lowOf_le_head _ _) ?_
    split
    · exact Rat.le_refl
    · rename_i h; exact Rat.not_lt.1 h
  · exact ih h
theorem le_highOf_head (r : Rat) (rs : List Rat) : r ≤ cC r rs := by
 induction rs generalizing r with
 | nil => exact Rat.le_refl
 | cons x rs ih =>
  show r ≤ cC (if r < x then x else r) rs
  refine Rat.le_trans ?_ (ih _)
  split
  · rename_i h; exact Rat.le_of_lt h
  · exact Rat.le_refl
theorem le_highOf_mem {r : Rat} {rs : List Rat} {x : Rat} (h : x ∈ rs) : x ≤ cC r rs := by
 induction rs generalizing r with
 | nil => cases h
 | cons y rs ih =>
  show x ≤ cC (if r < y then y else r) rs
  rcases List.mem_cons.1 h with rfl | h
  · refine Rat.le_trans ?_ (le_highOf_head _ _)
    split
    · exact Rat.le_refl
    · rename_i h; exact Rat.not_lt.1 h
  · exact ih h
def Btw (a b x : Rat) : Prop := (a ≤ x ∧ x ≤ b) ∨ (b ≤ x ∧ x ≤ a)
theorem Btw.right (a b : Rat) : Btw a b b := by
 rcases (Rat.le_total : a ≤ b ∨ b ≤ a) with h | h
 · exact .inl ⟨h, Rat.le_refl⟩
 · exact .inr ⟨Rat.le_refl, h⟩
theorem hasQ_iff (a b x : Rat) : jv a b x = true ↔ Btw a b x := by
 unfold jv Btw
 rw [Bool.and_eq_true, decide_eq_true_eq, decide_eq_true_eq]
 show (if b < a then b else a) ≤ x ∧ x ≤ (if a < b then b else a) ↔ _
 constructor
 · rintro ⟨h1, h2⟩
   split at h1
   · rename_i h
     rw [if_neg (Rat.not_lt.2 (Rat.le_of_lt h))] at h2
     exact .inr ⟨h1, h2⟩
   · rename_i h
     split at h2
     · exact .inl ⟨h1, h2⟩
     · rename_i h'
       have : a = b := Rat.le_antisymm (Rat.not_lt.1 h) (Rat.not_lt.1 h')
       subst this
       exact .inl ⟨h1, h2⟩
 · rintro (⟨h1, h2⟩ | ⟨h1, h2⟩)
   · constructor
     · split
       · rename_i h; exact Rat.le_trans (Rat.le_of_lt h) h1
       · exact h1
     · split
       · exact h2
       · rename_i h; exact Rat.le_trans h2 (Rat.not_lt.1 h)
   · constructor
     · split
       · exact h1
       · rename_i h; exact Rat.le_trans (Rat.not_lt.1 h) h1
     · split
       · rename_i h; exact Rat.le_trans h2 (Rat.le_of_lt h)
       · exact h2
theorem low_le_high (r : Rat) (rs : List Rat) : cJ r rs ≤ cC r rs := Rat.le_trans (lowOf_le_head r rs) (le_highOf_head r rs)
theorem btw_trans {a b c d x : Rat} (h : Btw c d x) (hc : Btw a b c) (hd : Btw a b d) : Btw a b x := by
 rcases h with ⟨h1, h2⟩ | ⟨h1, h2⟩ <;> rcases hc with ⟨c1, c2⟩ | ⟨c1, c2⟩ <;> rcases hd with ⟨d1, d2⟩ | ⟨d1, d2⟩
 all_goals first
  | exact .inl ⟨Rat.le_trans c1 h1, Rat.le_trans h2 d2⟩
  | exact .inr ⟨Rat.le_trans c1 h1, Rat.le_trans h2 d2⟩
  | exact .inl ⟨Rat.le_trans d1 h1, Rat.le_trans h2 c2⟩
  | exact .inr ⟨Rat.le_trans d1 h1, Rat.le_trans h2 c2⟩
  | exact .inl ⟨Rat.le_trans c1 h1, Rat.le_trans h2 (Rat.le_trans d2 (Rat.le_trans c1 c2))⟩
  | exact .inl ⟨Rat.le_trans c1 h1, Rat.le_trans (Rat.le_trans h2 d2) (Rat.le_trans c1 c2)⟩
  | exact .inr ⟨Rat.le_trans c1 h1, Rat.le_trans (Rat.le_trans h2 d2) (Rat.le_trans c1 c2)⟩
  | exact .inl ⟨Rat.le_trans d1 h1, Rat.le_trans (Rat.le_trans h2 c2) (Rat.le_trans d1 d2)⟩
  | exact .inr ⟨Rat.le_trans d1 h1, Rat.le_trans (Rat.le_trans h2 c2) (Rat.le_trans d1 d2)⟩
def Mono (f : Rat → Rat) (a b : Rat) : Prop := ∀ x, Btw a b x → Btw (f a) (f b) (f x)
theorem mono_add_left (y a b : Rat) : Mono (fun x => x + y) a b := by
 rintro x (⟨h1, h2⟩ | ⟨h1, h2⟩)
 · exact .inl ⟨Rat.add_le_add_right.2 h1, Rat.add_le_add_right.2 h2⟩
 · exact .inr ⟨Rat.add_le_add_right.2 h1, Rat.add_le_add_right.2 h2⟩
theorem mono_mul_left (y a b : Rat) : Mono (fun x => x * y) a b := by
 rcases (Rat.le_total : 0 ≤ y ∨ y ≤ 0) with hy | hy
 · rintro x (⟨h1, h2⟩ | ⟨h1, h2⟩)
   · exact .inl ⟨Rat.mul_le_mul_of_nonneg_right h1 hy, Rat.mul_le_mul_of_nonneg_right h2 hy⟩
   · exact .inr ⟨Rat.mul_le_mul_of_nonneg_right h1 hy, Rat.mul_le_mul_of_nonneg_right h2 hy⟩
 · have hy' : 0 ≤ -y := by have := Rat.neg_le_neg hy; simpa using this
   have key : ∀ {u v : Rat}, u ≤ v → v * y ≤ u * y := fun {u v} h => by
    have := Rat.mul_le_mul_of_nonneg_right h hy'
    rw [Rat.mul_neg, Rat.mul_neg] at this
    exact Rat.neg_le_neg_iff.1 this
   rintro x (⟨h1, h2⟩ | ⟨h1, h2⟩)
   · exact .inr ⟨key h2, key h1⟩
   · exact .inl ⟨key h2, key h1⟩
theorem mono_mul_right (x a b : Rat) : Mono (fun y => x * y) a b := by
 intro y hy
 have := mono_mul_left x a b y hy
 simpa only [Rat.mul_comm x] using this
theorem mono_sub_left (y a b : Rat) : Mono (fun x => x - y) a b := by
 intro x hx
 have := mono_add_left (-y) a b x hx
 simpa only [Rat.sub_eq_add_neg] using this
theorem inv_anti {u v : Rat} (h : 0 < u) (k : u ≤ v) : v⁻¹ ≤ u⁻¹ := by
 have hv : 0 < v := by grind
 have h1 := Rat.inv_pos.2 h
 have h2 := Rat.inv_pos.2 hv
 have h3 : u⁻¹ - v⁻¹ = (v - u) * (u⁻¹ * v⁻¹) := by grind
 have h4 := Rat.mul_nonneg (a := v - u) (b := u⁻¹ * v⁻¹) (by grind) (Rat.mul_nonneg (by grind) (by grind))
 grind
theorem inv_anti_neg {u v : Rat} (h : v < 0) (k : u ≤ v) : v⁻¹ ≤ u⁻¹ := by
 have h1 := inv_anti (u := -v) (v := -u) (by grind) (by grind)
 have h2 : (-v)⁻¹ = -v⁻¹ := by grind
 have h3 : (-u)⁻¹ = -u⁻¹ := by grind
 grind
theorem square_in {a b x : Rat} (hx : Btw a b x) : Btw (cJ (a * a) (cB (jv a b 0) (b * b) (0 * 0))) (cC (a * a) (cB (jv a b 0) (b * b) (0 * 0))) (x * x) := by
 have m1 := lowOf_le_head (a * a) (cB (jv a b 0) (b * b) (0 * 0))
 have m2 : cJ (a * a) (cB (jv a b 0) (b * b) (0 * 0)) ≤ b * b := lowOf_le_mem (by unfold cB; split <;> simp)
 have m3 := le_highOf_head (a * a) (cB (jv a b 0) (b * b) (0 * 0))
 have m4 : b * b ≤ cC (a * a) (cB (jv a b 0) (b * b) (0 * 0)) := le_highOf_mem (by unfold cB; split <;> simp)
 have m5 : Btw a b 0 → cJ (a * a) (cB (jv a b 0) (b * b) (0 * 0)) ≤ 0 := fun h => by
  have := (hasQ_iff a b 0).2 h
  exact lowOf_le_mem (by rw [this]; simp [cB])
 generalize cJ (a * a) (cB (jv a b 0) (b * b) (0 * 0)) = l at *
 generalize cC (a * a) (cB (jv a b 0) (b * b) (0 * 0)) = g at *
 have sq : ∀ {u v : Rat}, 0 ≤ u → u ≤ v → u * u ≤ v * v := fun {u v} h k => by
  have h1 := Rat.mul_le_mul_of_nonneg_right k h
  have h2 := Rat.mul_le_mul_of_nonneg_right k (Rat.le_trans h k)
  have h3 : u * v = v * u := Rat.mul_comm u v
  grind
 have sqn : ∀ {u v : Rat}, v ≤ 0 → u ≤ v → v * v ≤ u * u := fun {u v} h k => by
  have := sq (u := -v) (v := -u) (by grind) (by grind)
  have h1 : -v * -v = v * v := by grind
  have h2 : -u * -u = u * u := by grind
  grind
 have nn : 0 ≤ x * x := by
  rcases (Rat.le_total : 0 ≤ x ∨ x ≤ 0) with h | h
  · exact Rat.mul_nonneg h h
  · have := sqn (u := x) (v := 0) Rat.le_refl h
    simpa using this
 unfold Btw at hx m5 ⊢
 left
 rcases (Rat.le_total : 0 ≤ x ∨ x ≤ 0) with h | h <;> rcases hx with ⟨h1, h2⟩ | ⟨h1, h2⟩
 · refine ⟨?_, by have := sq h h2; grind⟩
   rcases (Rat.le_total : 0 ≤ a ∨ a ≤ 0) with k | k
   · have := sq k h1; grind
   · have := m5 (.inl ⟨k, by grind⟩); grind
 · refine ⟨?_, by have := sq h h2; grind⟩
   rcases (Rat.le_total : 0 ≤ b ∨ b ≤ 0) with k | k
   · have := sq k h1; grind
   · have := m5 (.inr ⟨k, by grind⟩); grind
 · refine ⟨?_, by have := sqn h h1; grind⟩
   rcases (Rat.le_total : 0 ≤ b ∨ b ≤ 0) with k | k
   · have := m5 (.inl ⟨by grind, k⟩); grind
   · have := sqn k h2; grind
 · refine ⟨?_, by have := sqn h h1; grind⟩
   rcases (Rat.le_total : 0 ≤ a ∨ a ≤ 0) with k | k
   · have := m5 (.inr ⟨by grind, k⟩); grind
   · have := sqn k h2; grind
theorem square_ends (a b : Rat) (P : Rat → Prop) (h1 : P (a * a)) (h2 : P (b * b)) (h3 : Btw a b 0 → P 0) :
 P (cJ (a * a) (cB (jv a b 0) (b * b) (0 * 0))) ∧ P (cC (a * a) (cB (jv a b 0) (b * b) (0 * 0))) := by
 have key : ∀ x, x = a * a ∨ x ∈ cB (jv a b 0) (b * b) (0 * 0) → P x := by
  intro x hx
  rcases hx with rfl | hx
  · exact h1
  · unfold cB at hx
    split at hx
    · rename_i hh
      have := (hasQ_iff a b 0).1 hh
      simp at hx
      rcases hx with rfl | rfl
      · exact h2
      · simpa using h3 this
    · simp at hx
      subst hx
      exact h2
 exact ⟨key _ (lowOf_mem _ _), key _ (highOf_mem _ _)⟩
theorem num_zero {a : Rat} : a.num = 0 ↔ a = 0 := Rat.num_eq_zero
theorem quad_in {a b c lo hi x : Rat} (hx : Btw lo hi x) : Btw (cJ (cw a b c lo) (cK a b c lo hi)) (cC (cw a b c lo) (cK a b c lo hi)) (cw a b c x) := by
 have e0 : Btw (cJ (cw a b c lo) (cK a b c lo hi)) (cC (cw a b c lo) (cK a b c lo hi)) (cw a b c lo) := .inl ⟨lowOf_le_head _ _, le_highOf_head _ _⟩
 have mem : ∀ {y}, y ∈ cK a b c lo hi → Btw (cJ (cw a b c lo) (cK a b c lo hi)) (cC (cw a b c lo) (cK a b c lo hi)) y := fun h => .inl ⟨lowOf_le_mem h, le_highOf_mem h⟩
 have e1 := mem (y := cw a b c hi) (by
  unfold cK cB
  split
  · simp
  · split <;> simp)
 by_cases ha : a.num = 0
 · refine btw_trans ?_ e0 e1
   have ha := num_zero.1 ha
   subst ha
   have := mono_mul_left b lo hi x hx
   unfold cw Btw at *
   simp only at this
   grind
 · have ht : Btw lo hi (cV a b) → Btw (cJ (cw a b c lo) (cK a b c lo hi)) (cC (cw a b c lo) (cK a b c lo hi)) (cw a b c (cV a b)) := fun h => mem (by
    have := (hasQ_iff lo hi (cV a b)).2 h
    unfold cK
    rw [if_neg ha, this]
    simp [cB])
   generalize cJ (cw a b c lo) (cK a b c lo hi) = l at *
   generalize cC (cw a b c lo) (cK a b c lo hi) = g at *
   have ha : ¬ a = 0 := fun h => ha (num_zero.2 h)
   obtain ⟨t, htt⟩ : ∃ t, t = cV a b := ⟨_, rfl⟩
   rw [← htt] at ht
   have hb : b = -(t * (a + a)) := by
    have h2 : a + a ≠ 0 := by grind
    rw [htt]
    unfold cV
    rw [Rat.mul_assoc, Rat.inv_mul_cancel _ h2]
    grind
   have hq : ∀ y, cw a b c y = a * ((y - t) * (y - t)) + cw a b c t := fun y => by unfold cw; rw [hb]; grind
   have hs : Btw (lo - t) (hi - t) (x - t) := mono_sub_left t lo hi x hx
   have h1 := square_in hs
   obtain ⟨p1, p2⟩ := square_ends (lo - t) (hi - t) (fun y => Btw l g (a * y + cw a b c t)) (by rw [← hq lo]; exact e0) (by rw [← hq hi]; exact e1) (fun h => by
    have h2 : Btw lo hi t := by
     unfold Btw at h ⊢
     grind
    have := ht h2
    have h3 : a * 0 + cw a b c t = cw a b c t := by grind
    rw [h3]; exact this)
   have h4 := mono_mul_right a _ _ _ h1
   have h5 := mono_add_left (cw a b c t) _ _ _ h4
   rw [hq x]
   exact btw_trans h5 p1 p2
theorem quad_ends {a b c lo hi y : Rat} (h : y = cJ (cw a b c lo) (cK a b c lo hi) ∨ y = cC (cw a b c lo) (cK a b c lo hi)) :
 y = cw a b c lo ∨ y = cw a b c hi ∨ (¬ a.num = 0 ∧ jv lo hi (cV a b) = true ∧ y = cw a b c (cV a b)) := by
 have key : ∀ y, y = cw a b c lo ∨ y ∈ cK a b c lo hi → y = cw a b c lo ∨ y = cw a b c hi ∨ (¬ a.num = 0 ∧ jv lo hi (cV a b) = true ∧ y = cw a b c (cV a b)) := by
  intro y hy
  rcases hy with rfl | hy
  · exact .inl rfl
  · unfold cK cB at hy
    split at hy
    · simp at hy; exact .inr (.inl hy)
    · rename_i ha
      split at hy
      · rename_i hh
        simp at hy
        rcases hy with h | h
        · exact .inr (.inl h)
        · exact .inr (.inr ⟨ha, hh, h⟩)
      · simp at hy; exact .inr (.inl hy)
 rcases h with rfl | rfl
 · exact key _ (lowOf_mem _ _)
 · exact key _ (highOf_mem _ _)
open Go Go.RowKit Go.Proofs Lim
open Go Go.RowKit Go.Proofs Lim
open Go Go.RowKit Go.Proofs Lim
theorem nt_small : cz 0 = [48] ∧ cz 1 = [49] ∧ cz 2 = [50] ∧ cz 3 = [51] ∧ cz 4 = [52] ∧ cz 8 = [56] := by
 refine ⟨?_, ?_, ?_, ?_, ?_, ?_⟩ <;> simp [cz, digs_pos, digs_zero, dbyte]
theorem qtext_of {r : Rat} {i : Int} {d : Nat} (h1 : r.num = i) (h2 : r.den = d) : qtext r = (if i < 0 then [45] else []) ++ cz i.natAbs ++ (if d = 1 then [] else 47 :: cz d) := by
 unfold qtext
 rw [h1, h2]
abbrev qi (i : Int) : Rat := (i : Rat)
theorem kx : qtext (qi 6 / qi (-4)) = [45, 51, 47, 50] := by
 rw [qtext_of (i := -3) (d := 2) (by kernel_rfl) (by kernel_rfl)]
 show [45] ++ cz 3 ++ (47 :: cz 2) = _
 rw [nt_small.2.2.2.1, nt_small.2.2.1]; rfl
theorem kxf : qtext (((qi 6 / qi (-4)).floor : Int) : Rat) = [45, 50] := by
 rw [show (qi 6 / qi (-4)).floor = -2 by kernel_rfl, qtext_of (i := -2) (d := 1) rfl rfl]
 show [45] ++ cz 2 ++ [] = _
 rw [nt_small.2.2.1]; rfl
theorem kxc : qtext (((qi 6 / qi (-4)).ceil : Int) : Rat) = [45, 49] := by
 rw [show (qi 6 / qi (-4)).ceil = -1 by kernel_rfl, qtext_of (i := -1) (d := 1) rfl rfl]
 show [45] ++ cz 1 ++ [] = _
 rw [nt_small.2.1]; rfl
theorem kread : readQ [54, 47, 52] = (0, 4) := by
 refine (readQ_some (r := mkRat 3 2) (by decide) (by kernel_rfl)).trans (if_neg ?_)
 rw [qtext_of (i := 3) (d := 2) (by kernel_rfl) (by kernel_rfl)]
 show ¬ ([] ++ cz 3 ++ (47 :: cz 2) = _)
 rw [nt_small.2.2.2.1, nt_small.2.2.1]
 decide
theorem ks : cJ (qi 2) [qi (-1)] = qi (-1) ∧ cC (qi 2) [qi (-1)] = qi 2 := ⟨by kernel_rfl, by kernel_rfl⟩
theorem kr : cJ (qi 3) [qi 4] = qi 3 ∧ cC (qi 3) [qi 4] = qi 4 := ⟨by kernel_rfl, by kernel_rfl⟩
theorem kv : cJ (qi 0) [qi 3] = qi 0 ∧ cC (qi 0) [qi 3] = qi 3 := ⟨by kernel_rfl, by kernel_rfl⟩
theorem kt : wLow (fun r s => r * s) (qi (-1)) (qi 2) (qi 3) (qi 4) = qi (-4) ∧ wHigh (fun r s => r * s) (qi (-1)) (qi 2) (qi 3) (qi 4) = qi 8 := ⟨by kernel_rfl, by kernel_rfl⟩
theorem kq : cJ (qi (-1) * qi (-1)) (cB (jv (qi (-1)) (qi 2) 0) (qi 2 * qi 2) (0 * 0)) = qi 0 := by kernel_rfl
theorem ku : cJ (cw (qi 1) (qi (-2)) (qi 0) (qi 0)) (cK (qi 1) (qi (-2)) (qi 0) (qi 0) (qi 3)) = qi (-1) ∧ cC (cw (qi 1) (qi (-2)) (qi 0) (qi 0)) (cK (qi 1) (qi (-2)) (qi 0) (qi 0) (qi 3)) = qi 3 := ⟨by kernel_rfl, by kernel_rfl⟩
theorem kt4 : qtext (qi (-4)) = [45, 52] := by
 rw [qtext_of (i := -4) (d := 1) rfl rfl]
 show [45] ++ cz 4 ++ [] = _
 rw [nt_small.2.2.2.2.1]; rfl
theorem kt8 : qtext (qi 8) = [56] := by
 rw [qtext_of (i := 8) (d := 1) rfl rfl]
 show [] ++ cz 8 ++ [] = _
 rw [nt_small.2.2.2.2.2]; rfl
theorem kt0 : qtext (qi 0) = [48] := by
 rw [qtext_of (i := 0) (d := 1) rfl rfl]
 show [] ++ cz 0 ++ [] = _
 rw [nt_small.1]; rfl
theorem kt1 : qtext (qi (-1)) = [45, 49] := by
 rw [qtext_of (i := -1) (d := 1) rfl rfl]
 show [45] ++ cz 1 ++ [] = _
 rw [nt_small.2.1]; rfl
theorem kt3 : qtext (qi 3) = [51] := by
 rw [qtext_of (i := 3) (d := 1) rfl rfl]
 show [] ++ cz 3 ++ [] = _
 rw [nt_small.2.2.2.1]; rfl
theorem jl (i : Int) (h1 : -9223372036854775808 ≤ i) (h2 : i ≤ 9223372036854775807) : cF (qi i) 1 := siz_int i h1 h2
open Go Go.RowKit Go.Proofs Lim
theorem newbox8 (w : World) (c0 c1 c2 c3 c4 c5 c6 c7 : Value) : ∃ W, w.alloc (.cells #[c0, c1, c2, c3, c4, c5, c6, c7] 66) = W ∧ Below w.heap.size w W ∧ cj W w.heap.size c0 c1 c2 c3 c4 c5 c6 c7 :=
 ⟨_, rfl, cu w _, cj.new w c0 c1 c2 c3 c4 c5 c6 c7⟩
def ZAt (w0 W : World) (m : Nat) : Prop := w0.heap.size ≤ m ∧ ZBox8 W m
theorem ZAt.keep {w0 W W' : World} {m : Nat} (h : ZAt w0 W m) (hb : Below W.heap.size W W') : ZAt w0 W' m := ⟨h.1, cj.below h.2 hb (Nat.le_refl _)⟩
theorem ZAt.new {w0 W W' : World} (hb0 : Below w0.heap.size w0 W) (hb : Below (W.alloc (.cells #[.bool false, .int .u64 0, .int .u64 0, .pointer none, .bool false, .int .u64 0, .int .u64 0, .pointer none] 66)).heap.size (W.alloc (.cells #[.bool false, .int .u64 0, .int .u64 0, .pointer none, .bool false, .int .u64 0, .int .u64 0, .pointer none] 66)) W') : ZAt w0 W' W.heap.size :=
 ⟨hb0.size, cj.below (cj.new W _ _ _ _ _ _ _ _) hb (Nat.le_refl _)⟩
theorem ZAt.drew {w0 W W' : World} (hb0 : Below w0.heap.size w0 W) (hb : Below (W.alloc (.cells #[.bool false, .int .u64 0, .int .u64 0, .pointer none, .bool false, .int .u64 0, .int .u64 0, .pointer none] 66)).drew.heap.size (W.alloc (.cells #[.bool false, .int .u64 0, .int .u64 0, .pointer none, .bool false, .int .u64 0, .int .u64 0, .pointer none] 66)).drew W') : ZAt w0 W' W.heap.size :=
 ⟨hb0.size, cj.below (W := (W.alloc (.cells #[.bool false, .int .u64 0, .int .u64 0, .pointer none, .bool false, .int .u64 0, .int .u64 0, .pointer none] 66)).drew) (show cj (W.alloc (.cells #[.bool false, .int .u64 0, .int .u64 0, .pointer none, .bool false, .int .u64 0, .int .u64 0, .pointer none] 66)) _ _ _ _ _ _ _ _ _ from cj.new W _ _ _ _ _ _ _ _) hb (Nat.le_refl _)⟩
def KBox (w0 : World) (lo hi : Rat) (s : Value) (wx : World) : Prop := ∃ m t1 ta tb tp t2 tc td tq, s = .pointer (some ⟨m, 0, none⟩) ∧ cj wx m (.bool t1) (u ta) (u tb) (.pointer tp) (.bool t2) (u tc) (u td) (.pointer tq) ∧
 cR wx (.agg #[.bool t1, u ta, u tb, .pointer tp]) lo ∧ cR wx (.agg #[.bool t2, u tc, u td, .pointer tq]) hi ∧ Below w0.heap.size w0 wx
theorem KBox.stored {w0 W : World} {R : Nat} {lo hi : Rat} {t1 t2 : Bool} {ta tb tc td : Nat} {tp tq : Option Addr} (hR : ZAt w0 W R) (h : IsS W (.agg #[.bool t1, u ta, u tb, .pointer tp, .bool t2, u tc, u td, .pointer tq]) lo hi) (hb : Below w0.heap.size w0 W) :
 KBox w0 lo hi (.pointer (some ⟨R, 0, none⟩)) ((((((((W.setCell ⟨R, 0, none⟩ (.bool t1)).setCell ⟨R, 1, none⟩ (u ta)).setCell ⟨R, 2, none⟩ (u tb)).setCell ⟨R, 3, none⟩ (.pointer tp)).setCell ⟨R, 4, none⟩ (.bool t2)).setCell ⟨R, 5, none⟩ (u tc)).setCell ⟨R, 6, none⟩ (u td)).setCell ⟨R, 7, none⟩ (.pointer tq)) := by
 have ho := only8 W R (.bool t1) (u ta) (u tb) (.pointer tp) (.bool t2) (u tc) (u td) (.pointer tq)
 obtain ⟨_, _, _, _, _, _, _, _, he, h1, h2⟩ := h
 simp only [Value.agg.injEq, Array.mk.injEq, List.cons.injEq, and_true] at he
 obtain ⟨e1, e2, e3, e4, e5, e6, e7, e8⟩ := he
 rw [← e1, ← e2, ← e3, ← e4] at h1
 rw [← e5, ← e6, ← e7, ← e8] at h2
 exact ⟨R, t1, ta, tb, tp, t2, tc, td, tq, rfl, cj.setHigh (cj.setLow hR.2 _ _ _ _) _ _ _ _, h1.other (cj.nbox hR.2) ho, h2.other (cj.nbox hR.2) ho, hb.trans (ho.below hR.1)⟩
theorem KBox.fresh {w0 W : World} {lo hi : Rat} {t1 t2 : Bool} {ta tb tc td : Nat} {tp tq : Option Addr} (h : IsS W (.agg #[.bool t1, u ta, u tb, .pointer tp, .bool t2, u tc, u td, .pointer tq]) lo hi) (hb : Below w0.heap.size w0 W) :
 KBox w0 lo hi (.pointer (some ⟨W.heap.size, 0, none⟩)) (W.alloc (.cells #[.bool t1, u ta, u tb, .pointer tp, .bool t2, u tc, u td, .pointer tq] 66)) := by
 obtain ⟨_, _, _, _, _, _, _, _, he, h1, h2⟩ := h
 simp only [Value.agg.injEq, Array.mk.injEq, List.cons.injEq, and_true] at he
 obtain ⟨e1, e2, e3, e4, e5, e6, e7, e8⟩ := he
 rw [← e1, ← e2, ← e3, ← e4] at h1
 rw [← e5, ← e6, ← e7, ← e8] at h2
 exact ⟨W.heap.size, t1, ta, tb, tp, t2, tc, td, tq, rfl, cj.new W _ _ _ _ _ _ _ _, h1.below (cu W _) (Nat.le_refl _), h2.below (cu W _) (Nat.le_refl _), cf hb (cu W _)⟩
theorem field_low (s1 s2 : Bool) (a b c d : Nat) (p q : Option Addr) (W : World) : (Instr.field 66 (.agg #[.bool s1, u a, u b, .pointer p, .bool s2, u c, u d, .pointer q]) 0).run Tryz.prog W = .ok (.agg #[.bool s1, u a, u b, .pointer p]) W := by kernel_rfl
open Go Go.RowKit Go.Proofs Lim
set_option maxHeartbeats 2000000 in
theorem known_any (w : World) (hG : Gr w) : Calls Tryz.prog 10 #[] w (Val w (.bool true)) := by
 have HG := Lib.hid (fun W (hW : Below w.heap.size w W) => hG.below hW hG.size)
 clear hG
 have HOf := Lib.hid (fun W hG => of_q 6 (-4) (by decide) (by decide) (by decide) (by decide) W hG)
 have HRd := Lib.hid (fun W hG => show Calls Tryz.prog 11 #[.string ⟨#[54, 47, 52]⟩] W (jq W [54, 47, 52]) from read_any [54, 47, 52] W (by decide) hG)
 go_enter Tryz.func10, Tryz.ntmps10
 go_wp2_with fail
 refine (HOf.out _ (HG.out _ (Below.refl _ _))).mono ?_
 rintro e W1 (⟨h0, _⟩ | ⟨_, vx, rfl, hx, hb⟩)
 · exact absurd h0 (by decide)
 have HA1 := Lib.hid hb
 have HX := Lib.hid hx
 obtain ⟨sx, ax, bx, px, rfl⟩ := hx.form
 clear hb hx HOf
 go_wp2_with fail
 obtain ⟨W2, hW, hb, ⟨f0, f1, f2, f3⟩⟩ := box1 W1 (.bool sx) (u ax) (u bx) (.pointer px); rw [← hW]; clear hW
 have HA2 := Lib.hid (cf HA1.out hb)
 have HX := Lib.hid (HX.out.below hb (Nat.le_refl _))
 clear hb HA1
 generalize W1.heap.size = n1 at *
 refine (HRd.out _ (HG.out _ HA2.out)).mono ?_
 rintro e W3 ⟨v0, rfl, h0, hb⟩
 (have hh := cq (b := n1) hb f0 f1 f2 f3; clear f0 f1 f2 f3; obtain ⟨f0, f1, f2, f3⟩ := hh)
 rw [kread] at h0 ⊢
 obtain ⟨s0, a0, b0, p0, rfl⟩ := h0.form
 have HA3 := Lib.hid (cf HA2.out hb)
 have HX := Lib.hid (HX.out.below hb (Nat.le_refl _))
 clear hb HA2 HRd h0
 have l1 : n1 < W3.heap.size := World.block_lt_of_cell? W3 _ f0
 go_wp2_with fail
 have hb := cu W3 (.cells #[.bool s0, u a0, u b0, .pointer p0] 26)
 obtain ⟨W4, hW⟩ : ∃ W, W3.alloc (.cells #[.bool s0, u a0, u b0, .pointer p0] 26) = W := ⟨_, rfl⟩
 rw [hW] at hb ⊢
 clear hW l1
 have HX := Lib.hid (HX.out.below hb (Nat.le_refl _))
 (have hh := cq (b := n1) hb f0 f1 f2 f3; clear f0 f1 f2 f3; obtain ⟨f0, f1, f2, f3⟩ := hh)
 have HA4 := Lib.hid (cf HA3.out hb)
 clear hb HA3
 have kz : cF (qi 6 / qi (-4)) 2 := (jl 6 (by decide) (by decide)).div (jl (-4) (by decide) (by decide)) (by decide)
 have HTx := Lib.hid (fun v W (hv : cR W v (qi 6 / qi (-4))) => (kx ▸ text_q v _ 2 W hv kz (by decide) : Calls Tryz.prog 14 #[v] W (ji W [45, 51, 47, 50])))
 have HFl := Lib.hid (fun v W (hv : cR W v (qi 6 / qi (-4))) hG => floor_q v _ 2 W hv kz (by decide) (by decide) hG)
 have HCe := Lib.hid (fun v W (hv : cR W v (qi 6 / qi (-4))) hG => ceil_q v _ 2 W hv kz (by decide) (by decide) hG)
 have HTf := Lib.hid (fun v W (hv : cR W v (((qi 6 / qi (-4)).floor : Int) : Rat)) => (kxf ▸ text_q v _ 1 W hv (siz_int _ (by rw [show (qi 6 / qi (-4)).floor = -2 by kernel_rfl]; decide) (by rw [show (qi 6 / qi (-4)).floor = -2 by kernel_rfl]; decide)) (by decide) : Calls Tryz.prog 14 #[v] W (ji W [45, 50])))
 have HTc := Lib.hid (fun v W (hv : cR W v (((qi 6 / qi (-4)).ceil : Int) : Rat)) => (kxc ▸ text_q v _ 1 W hv (siz_int _ (by rw [show (qi 6 / qi (-4)).ceil = -1 by kernel_rfl]; decide) (by rw [show (qi 6 / qi (-4)).ceil = -1 by kernel_rfl]; decide)) (by decide) : Calls Tryz.prog 14 #[v] W (ji W [45, 49])))
 clear kz
 refine (HTx.out _ _ HX.out).mono ?_
 rintro e W5 ⟨rfl, hb⟩
 have HX := Lib.hid (HX.out.below hb (Nat.le_refl _))
 (have hh := cq (b := n1) hb f0 f1 f2 f3; clear f0 f1 f2 f3; obtain ⟨f0, f1, f2, f3⟩ := hh)
 have HA5 := Lib.hid (cf HA4.out hb)
 clear hb HA4
 go_wp2_with fail
 refine (HFl.out _ _ HX.out (HG.out _ HA5.out)).mono ?_
 rintro e W6 ⟨vf, rfl, hvf, hb⟩
 have HX := Lib.hid (HX.out.below hb (Nat.le_refl _))
 (have hh := cq (b := n1) hb f0 f1 f2 f3; clear f0 f1 f2 f3; obtain ⟨f0, f1, f2, f3⟩ := hh)
 have HA6 := Lib.hid (cf HA5.out hb)
 have HVF := Lib.hid hvf
 obtain ⟨_, _, _, _, rfl⟩ := hvf.form
 clear hvf
 clear hb HA5
 go_wp2_with fail
 refine (HTf.out _ _ HVF.out).mono ?_
 rintro e W7 ⟨rfl, hb⟩
 have HX := Lib.hid (HX.out.below hb (Nat.le_refl _))
 (have hh := cq (b := n1) hb f0 f1 f2 f3; clear f0 f1 f2 f3; obtain ⟨f0, f1, f2, f3⟩ := hh)
 have HA7 := Lib.hid (cf HA6.out hb)
 clear hb HA6
 go_wp2_with fail
 refine (HCe.out _ _ HX.out (HG.out _ HA7.out)).mono ?_
 rintro e W8 ⟨vc, rfl, hvc, hb⟩
 have HX := Lib.hid (HX.out.below hb (Nat.le_refl _))
 (have hh := cq (b := n1) hb f0 f1 f2 f3; clear f0 f1 f2 f3; obtain ⟨f0, f1, f2, f3⟩ := hh)
 have HA8 := Lib.hid (cf HA7.out hb)
 have HVC := Lib.hid hvc
 obtain ⟨_, _, _, _, rfl⟩ := hvc.form
 clear hvc
 clear hb HA7
 go_wp2_with fail
 refine (HTc.out _ _ HVC.out).mono ?_
 rintro e W9 ⟨rfl, hb⟩
 have HA9 := Lib.hid (cf HA8.out hb)
 clear hb HA8
 clear f0 f1 f2 f3 HX HVF HVC HTx HFl HCe HTf HTc
 go_wp2_with fail
 have HI := Lib.hid (fun W => int_q (2) (by decide) (by decide) W)
 refine (HI.out _).mono ?_
 rintro e W10 ⟨va, rfl, hva, hb⟩
 have HA10 := Lib.hid (cf HA9.out hb)
 have HVA := Lib.hid hva
 obtain ⟨_, _, _, _, rfl⟩ := hva.form
 clear hva
 clear hb HA9
 clear HI
 go_wp2_with fail
 have HI := Lib.hid (fun W => int_q (-1) (by decide) (by decide) W)
 refine (HI.out _).mono ?_
 rintro e W11 ⟨vb, rfl, hvb, hb⟩
 have HVA := Lib.hid (HVA.out.below hb (Nat.le_refl _))
 have HA11 := Lib.hid (cf HA10.out hb)
 have HVB := Lib.hid hvb
 obtain ⟨_, _, _, _, rfl⟩ := hvb.form
 clear hvb
 clear hb HA10
 clear HI
 go_wp2_with fail
 have HBt := Lib.hid (fun v1 v2 W h1 h2 => between_any v1 v2 (qi (2)) (qi (-1)) 1 W h1 h2 (jl _ (by decide) (by decide)) (jl _ (by decide) (by decide)) (by decide))
 rw [ks.1, ks.2] at HBt
 refine (HBt.out _ _ _ HVA.out HVB.out).mono ?_
 rintro e W12 ⟨vs, rfl, hvs, hb⟩
 have HA12 := Lib.hid (cf HA11.out hb)
 have HVS := Lib.hid hvs
 clear hb HA11
 clear HBt HVA HVB
 obtain ⟨s1, sa, sb, sp, s2, sc, sd, sq, rfl, hl, hh⟩ := hvs
 go_wp2_with fail
 obtain ⟨W13, hW, hb, hX⟩ := newbox8 W12 (.bool s1) (u sa) (u sb) (.pointer sp) (.bool s2) (u sc) (u sd) (.pointer sq)
 rw [hW]
 clear hW
 have HS8 := Lib.hid hX
 have HLs := Lib.hid (hl.below hb (Nat.le_refl _))
 have HHs := Lib.hid (hh.below hb (Nat.le_refl _))
 have HA13 := Lib.hid (cf HA12.out hb)
 clear hX hl hh HVS
 clear hb HA12
 generalize W12.heap.size = n5 at *
 have HI3 := Lib.hid (fun W => (int_q 3 (by decide) (by decide) W : Calls Tryz.prog 15 #[.int .i64 3] W (cX W (qi 3))))
 have HI4 := Lib.hid (fun W => (int_q 4 (by decide) (by decide) W : Calls Tryz.prog 15 #[.int .i64 4] W (cX W (qi 4))))
 have HBt := Lib.hid (fun v1 v2 W h1 h2 => between_any v1 v2 (qi 3) (qi 4) 1 W h1 h2 (jl _ (by decide) (by decide)) (jl _ (by decide) (by decide)) (by decide))
 rw [kr.1, kr.2] at HBt
 have HTm := Lib.hid (fun v1 v2 W h1 h2 hG => sptimes_any v1 v2 (qi (-1)) (qi 2) (qi 3) (qi 4) 1 W h1 h2 (jl _ (by decide) (by decide)) (jl _ (by decide) (by decide)) (jl _ (by decide) (by decide)) (jl _ (by decide) (by decide)) (by decide) hG)
 rw [kt.1, kt.2] at HTm
 have HsS := Lib.hid (show IsS W13 (.agg #[.bool s1, u sa, u sb, .pointer sp, .bool s2, u sc, u sd, .pointer sq]) (qi (-1)) (qi 2) from ⟨_, _, _, _, _, _, _, _, rfl, HLs.out, HHs.out⟩)
 go_upto_region 6 with fail
 go_cut [6] from 42 to 46 (fun s6 wx => KBox W13 (qi (-4)) (qi 8) s6 wx)
 case first =>
  have hb0 := Below.refl W13.heap.size W13
  obtain ⟨c0, c1, c2, c3, c4, c5, c6, c7⟩ := HS8.out.cells
  have lt13 : n5 < W13.heap.size := cj.lt HS8.out
  have na13 := Nat.ne_of_lt lt13
  have nb13 := na13.symm
  go_region_held3 (fun w' => w'.cell? ⟨n5, 0, none⟩ = some (.bool s1) ∧ w'.cell? ⟨n5, 1, none⟩ = some (u sa) ∧ w'.cell? ⟨n5, 2, none⟩ = some (u sb) ∧ w'.cell? ⟨n5, 3, none⟩ = some (.pointer sp) ∧ w'.cell? ⟨n5, 4, none⟩ = some (.bool s2) ∧ w'.cell? ⟨n5, 5, none⟩ = some (u sc) ∧ w'.cell? ⟨n5, 6, none⟩ = some (u sd) ∧ w'.cell? ⟨n5, 7, none⟩ = some (.pointer sq)) (go_keep) (first | ((with_reducible refine (HI3.out _).mono ?_); rintro e W14 ⟨va, rfl, hva, hb⟩; obtain ⟨_, _, _, _, rfl⟩ := hva.form; ((first | have hz := ZAt.keep hz hb | have hz := ZAt.new hb0 hb | have hz := ZAt.drew hb0 hb | skip); have hb0 : Below W13.heap.size W13 W14 := (by first | exact cf hb0 hb | exact cf (cf hb0 (cu _ _)) hb | exact cI hb0 hb | exact cI (cf hb0 (cu _ _)) hb); clear c0 c1 c2 c3 c4 c5 c6 c7; have hX := cj.below HS8.out hb0 (Nat.le_refl _); (obtain ⟨c0, c1, c2, c3, c4, c5, c6, c7⟩ := hX.cells); have lt14 : n5 < W14.heap.size := cj.lt hX; have na14 := Nat.ne_of_lt lt14; have nb14 := na14.symm; clear hX); clear hb) | ((with_reducible refine (HI4.out _).mono ?_); rintro e W15 ⟨vb, rfl, hvb, hb⟩; obtain ⟨_, _, _, _, rfl⟩ := hvb.form; (first | replace hva := hva.below hb (Nat.le_refl _) | replace hva := (hva.below (cu _ _) (Nat.le_refl _)).below hb (Nat.le_refl _)); ((first | have hz := ZAt.keep hz hb | have hz := ZAt.new hb0 hb | have hz := ZAt.drew hb0 hb | skip); have hb0 : Below W13.heap.size W13 W15 := (by first | exact cf hb0 hb | exact cf (cf hb0 (cu _ _)) hb | exact cI hb0 hb | exact cI (cf hb0 (cu _ _)) hb); clear c0 c1 c2 c3 c4 c5 c6 c7; have hX := cj.below HS8.out hb0 (Nat.le_refl _); (obtain ⟨c0, c1, c2, c3, c4, c5, c6, c7⟩ := hX.cells); have lt15 : n5 < W15.heap.size := cj.lt hX; have na15 := Nat.ne_of_lt lt15; have nb15 := na15.symm; clear hX); clear hb) | ((with_reducible refine (HBt.out _ _ _ ?_ ?_).mono ?_); (first | exact hva | exact hva.below (cu _ _) (Nat.le_refl _)); (first | exact hvb | exact hvb.below (cu _ _) (Nat.le_refl _)); rintro e W16 ⟨vt, rfl, hvt, hb⟩; have hvt' := hvt; obtain ⟨_, _, _, _, _, _, _, _, rfl, -, -⟩ := hvt'; ((first | have hz := ZAt.keep hz hb | have hz := ZAt.new hb0 hb | have hz := ZAt.drew hb0 hb | skip); have hb0 : Below W13.heap.size W13 W16 := (by first | exact cf hb0 hb | exact cf (cf hb0 (cu _ _)) hb | exact cI hb0 hb | exact cI (cf hb0 (cu _ _)) hb); clear c0 c1 c2 c3 c4 c5 c6 c7; have hX := cj.below HS8.out hb0 (Nat.le_refl _); (obtain ⟨c0, c1, c2, c3, c4, c5, c6, c7⟩ := hX.cells); have lt16 : n5 < W16.heap.size := cj.lt hX; have na16 := Nat.ne_of_lt lt16; have nb16 := na16.symm; clear hX); clear hb) | ((with_reducible refine (HTm.out _ _ _ ?_ ?_ ?_).mono ?_); (first | exact HsS.out.below hb0 (Nat.le_refl _) | exact HsS.out.below (cf hb0 (cu _ _)) (Nat.le_refl _)); (first | exact hvt | exact hvt.below (cu _ _) (Nat.le_refl _)); (first | exact HG.out _ (cf HA13.out hb0) | exact HG.out _ (cf HA13.out (cf hb0 (cu _ _)))); rintro e W17 ⟨v, rfl, hv, hb⟩; have hv' := hv; obtain ⟨t1, ta, tb, tp, t2, tc, td, tq, rfl, -, -⟩ := hv'; ((first | have hz := ZAt.keep hz hb | have hz := ZAt.new hb0 hb | have hz := ZAt.drew hb0 hb | skip); have hb0 : Below W13.heap.size W13 W17 := (by first | exact cf hb0 hb | exact cf (cf hb0 (cu _ _)) hb | exact cI hb0 hb | exact cI (cf hb0 (cu _ _)) hb); clear c0 c1 c2 c3 c4 c5 c6 c7; have hX := cj.below HS8.out hb0 (Nat.le_refl _); (obtain ⟨c0, c1, c2, c3, c4, c5, c6, c7⟩ := hX.cells); have lt17 : n5 < W17.heap.size := cj.lt hX; have na17 := Nat.ne_of_lt lt17; have nb17 := na17.symm; clear hX); clear hb; (first | (have hz9 := hz.2; (obtain ⟨z0, z1, z2, z3, z4, z5, z6, z7⟩ := cj.cells hz9; have zf0 := cj.frozen hz9 0; have zf1 := cj.frozen hz9 1; have zf2 := cj.frozen hz9 2; have zf3 := cj.frozen hz9 3; have zf4 := cj.frozen hz9 4; have zf5 := cj.frozen hz9 5; have zf6 := cj.frozen hz9 6; have zf7 := cj.frozen hz9 7); have HZz := Lib.hid hz; clear hz hz9) | skip); have HVv := Lib.hid hv; have HBb := Lib.hid hb0; clear hv hb0 hva hvb hvt))
  all_goals (clear c0 c1 c2 c3 c4 c5 c6 c7; rename_i hS; clear hS; go_wp2_with fail; go_meet; first | (have hz := HZz.out; exact KBox.stored hz HVv.out HBb.out) | exact KBox.fresh HVv.out HBb.out)
 case rest =>
  obtain ⟨n6, t1, ta, tb, tp, t2, tc, td, tq, rfl, hX, hl, hh, hb⟩ := hcut
  obtain ⟨W17, hW17⟩ : ∃ W, W = wc := ⟨_, rfl⟩
  subst hW17
  have HT8 := Lib.hid hX
  have HLt := Lib.hid hl
  have HHt := Lib.hid hh
  have HS8 := Lib.hid (cj.below HS8.out hb (Nat.le_refl _))
  have HLs := Lib.hid (HLs.out.below hb (Nat.le_refl _))
  have HHs := Lib.hid (HHs.out.below hb (Nat.le_refl _))
  have HA17 := Lib.hid (cf HA13.out hb)
  clear hX hl hh HI3 HI4 HBt HTm HsS
  clear hb HA13
  go_wp2_with fail
  have HI := Lib.hid (fun W => int_q (1) (by decide) (by decide) W)
  refine (HI.out _).mono ?_
  rintro e W18 ⟨va, rfl, hva, hb⟩
  have HLs := Lib.hid (HLs.out.below hb (Nat.le_refl _))
  have HHs := Lib.hid (HHs.out.below hb (Nat.le_refl _))
  have HLt := Lib.hid (HLt.out.below hb (Nat.le_refl _))
  have HHt := Lib.hid (HHt.out.below hb (Nat.le_refl _))
  have HS8 := Lib.hid (cj.below HS8.out hb (Nat.le_refl _))
  have HT8 := Lib.hid (cj.below HT8.out hb (Nat.le_refl _))
  have HA18 := Lib.hid (cf HA17.out hb)
  have HVA := Lib.hid hva
  obtain ⟨_, _, _, _, rfl⟩ := hva.form
  clear hva
  clear hb HA17
  clear HI
  go_wp2_with fail
  have HI := Lib.hid (fun W => int_q (-2) (by decide) (by decide) W)
  refine (HI.out _).mono ?_
  rintro e W19 ⟨vb, rfl, hvb, hb⟩
  have HLs := Lib.hid (HLs.out.below hb (Nat.le_refl _))
  have HHs := Lib.hid (HHs.out.below hb (Nat.le_refl _))
  have HLt := Lib.hid (HLt.out.below hb (Nat.le_refl _))
  have HHt := Lib.hid (HHt.out.below hb (Nat.le_refl _))
  have HVA := Lib.hid (HVA.out.below hb (Nat.le_refl _))
  have HS8 := Lib.hid (cj.below HS8.out hb (Nat.le_refl _))
  have HT8 := Lib.hid (cj.below HT8.out hb (Nat.le_refl _))
  have HA19 := Lib.hid (cf HA18.out hb)
  have HVB := Lib.hid hvb
  obtain ⟨_, _, _, _, rfl⟩ := hvb.form
  clear hvb
  clear hb HA18
  clear HI
  go_wp2_with fail
  have HI := Lib.hid (fun W => int_q (0) (by decide) (by decide) W)
  refine (HI.out _).mono ?_
  rintro e W20 ⟨vc, rfl, hvc, hb⟩
  have HLs := Lib.hid (HLs.out.below hb (Nat.le_refl _))
  have HHs := Lib.hid (HHs.out.below hb (Nat.le_refl _))
  have HLt := Lib.hid (HLt.out.below hb (Nat.le_refl _))
  have HHt := Lib.hid (HHt.out.below hb (Nat.le_refl _))
  have HVA := Lib.hid (HVA.out.below hb (Nat.le_refl _))
  have HVB := Lib.hid (HVB.out.below hb (Nat.le_refl _))
  have HS8 := Lib.hid (cj.below HS8.out hb (Nat.le_refl _))
  have HT8 := Lib.hid (cj.below HT8.out hb (Nat.le_refl _))
  have HA20 := Lib.hid (cf HA19.out hb)
  have HVC := Lib.hid hvc
  obtain ⟨_, _, _, _, rfl⟩ := hvc.form
  clear hvc
  clear hb HA19
  clear HI
  go_wp2_with fail
  have HI := Lib.hid (fun W => int_q (0) (by decide) (by decide) W)
  refine (HI.out _).mono ?_
  rintro e W21 ⟨vd, rfl, hvd, hb⟩
  have HLs := Lib.hid (HLs.out.below hb (Nat.le_refl _))
  have HHs := Lib.hid (HHs.out.below hb (Nat.le_refl _))
  have HLt := Lib.hid (HLt.out.below hb (Nat.le_refl _))
  have HHt := Lib.hid (HHt.out.below hb (Nat.le_refl _))
  have HVA := Lib.hid (HVA.out.below hb (Nat.le_refl _))
  have HVB := Lib.hid (HVB.out.below hb (Nat.le_refl _))
  have HVC := Lib.hid (HVC.out.below hb (Nat.le_refl _))
  have HS8 := Lib.hid (cj.below HS8.out hb (Nat.le_refl _))
  have HT8 := Lib.hid (cj.below HT8.out hb (Nat.le_refl _))
  have HA21 := Lib.hid (cf HA20.out hb)
  have HVD := Lib.hid hvd
  obtain ⟨_, _, _, _, rfl⟩ := hvd.form
  clear hvd
  clear hb HA20
  clear HI
  go_wp2_with fail
  have HI := Lib.hid (fun W => int_q (3) (by decide) (by decide) W)
  refine (HI.out _).mono ?_
  rintro e W22 ⟨ve, rfl, hve, hb⟩
  have HLs := Lib.hid (HLs.out.below hb (Nat.le_refl _))
  have HHs := Lib.hid (HHs.out.below hb (Nat.le_refl _))
  have HLt := Lib.hid (HLt.out.below hb (Nat.le_refl _))
  have HHt := Lib.hid (HHt.out.below hb (Nat.le_refl _))
  have HVA := Lib.hid (HVA.out.below hb (Nat.le_refl _))
  have HVB := Lib.hid (HVB.out.below hb (Nat.le_refl _))
  have HVC := Lib.hid (HVC.out.below hb (Nat.le_refl _))
  have HVD := Lib.hid (HVD.out.below hb (Nat.le_refl _))
  have HS8 := Lib.hid (cj.below HS8.out hb (Nat.le_refl _))
  have HT8 := Lib.hid (cj.below HT8.out hb (Nat.le_refl _))
  have HA22 := Lib.hid (cf HA21.out hb)
  have HVE := Lib.hid hve
  obtain ⟨_, _, _, _, rfl⟩ := hve.form
  clear hve
  clear hb HA21
  clear HI
  go_wp2_with fail
  have HBt := Lib.hid (fun v1 v2 W h1 h2 => between_any v1 v2 (qi (0)) (qi (3)) 1 W h1 h2 (jl _ (by decide) (by decide)) (jl _ (by decide) (by decide)) (by decide))
  rw [kv.1, kv.2] at HBt
  refine (HBt.out _ _ _ HVD.out HVE.out).mono ?_
  rintro e W23 ⟨vr, rfl, hvr, hb⟩
  have HLs := Lib.hid (HLs.out.below hb (Nat.le_refl _))
  have HHs := Lib.hid (HHs.out.below hb (Nat.le_refl _))
  have HLt := Lib.hid (HLt.out.below hb (Nat.le_refl _))
  have HHt := Lib.hid (HHt.out.below hb (Nat.le_refl _))
  have HVA := Lib.hid (HVA.out.below hb (Nat.le_refl _))
  have HVB := Lib.hid (HVB.out.below hb (Nat.le_refl _))
  have HVC := Lib.hid (HVC.out.below hb (Nat.le_refl _))
  have HS8 := Lib.hid (cj.below HS8.out hb (Nat.le_refl _))
  have HT8 := Lib.hid (cj.below HT8.out hb (Nat.le_refl _))
  have HA23 := Lib.hid (cf HA22.out hb)
  have HVR := Lib.hid hvr
  clear hb HA22
  clear HBt HVD HVE
  have HQu := Lib.hid (fun v1 v2 v3 v4 W h1 h2 h3 h4 hG => quadratic_any v1 v2 v3 v4 (qi 1) (qi (-2)) (qi 0) (qi 0) (qi 3) 1 W h1 h2 h3 h4 (jl _ (by decide) (by decide)) (jl _ (by decide) (by decide)) (jl _ (by decide) (by decide)) (jl _ (by decide) (by decide)) (jl _ (by decide) (by decide)) (by decide) hG)
  rw [ku.1, ku.2] at HQu
  obtain ⟨r1, ra, rb, rp, r2, rc, rd, rq, rfl, hl, hh⟩ := hvr
  have hvr := HVR.out
  go_wp2_with fail
  refine (HQu.out _ _ _ _ _ HVA.out HVB.out HVC.out HVR.out (HG.out _ HA23.out)).mono ?_
  rintro e W24 ⟨vq, rfl, hvq, hb⟩
  have HLs := Lib.hid (HLs.out.below hb (Nat.le_refl _))
  have HHs := Lib.hid (HHs.out.below hb (Nat.le_refl _))
  have HLt := Lib.hid (HLt.out.below hb (Nat.le_refl _))
  have HHt := Lib.hid (HHt.out.below hb (Nat.le_refl _))
  have HS8 := Lib.hid (cj.below HS8.out hb (Nat.le_refl _))
  have HT8 := Lib.hid (cj.below HT8.out hb (Nat.le_refl _))
  have HA24 := Lib.hid (cf HA23.out hb)
  have HVQ := Lib.hid hvq
  clear hb HA23
  clear HQu HVA HVB HVC HVR hl hh hvr
  obtain ⟨q1, qa, qb, qp, q2, qc, qd, qq, rfl, hl, hh⟩ := hvq
  have ltHS8 := cj.lt HS8.out
  have ltHT8 := cj.lt HT8.out
  go_upto_region 8 with fail
  obtain ⟨W25, hW, hb, hX⟩ := newbox8 W24 (.bool q1) (u qa) (u qb) (.pointer qp) (.bool q2) (u qc) (u qd) (.pointer qq)
  rw [hW]
  clear hW
  clear ltHS8
  clear ltHT8
  have HQ8 := Lib.hid hX
  have HLq := Lib.hid (hl.below hb (Nat.le_refl _))
  have HHq := Lib.hid (hh.below hb (Nat.le_refl _))
  have HLs := Lib.hid (HLs.out.below hb (Nat.le_refl _))
  have HHs := Lib.hid (HHs.out.below hb (Nat.le_refl _))
  have HLt := Lib.hid (HLt.out.below hb (Nat.le_refl _))
  have HHt := Lib.hid (HHt.out.below hb (Nat.le_refl _))
  have HS8 := Lib.hid (cj.below HS8.out hb (Nat.le_refl _))
  have HT8 := Lib.hid (cj.below HT8.out hb (Nat.le_refl _))
  have HA25 := Lib.hid (cf HA24.out hb)
  clear hX hl hh HVQ
  clear hb HA24
  generalize W24.heap.size = n7 at *
  (obtain ⟨c0, c1, c2, c3, c4, c5, c6, c7⟩ := HT8.out.cells)
  go_wp2_with fail
  clear c0 c1 c2 c3 c4 c5 c6 c7
  have HTx := Lib.hid (fun v W (hv : cR W v (qi (-4))) => (kt4 ▸ text_q v _ 1 W hv (jl _ (by decide) (by decide)) (by decide) : Calls Tryz.prog 14 #[v] W (ji W _)))
  refine (HTx.out _ _ HLt.out).mono ?_
  rintro e W26 ⟨rfl, hb⟩
  have HLs := Lib.hid (HLs.out.below hb (Nat.le_refl _))
  have HHs := Lib.hid (HHs.out.below hb (Nat.le_refl _))
  have HLt := Lib.hid (HLt.out.below hb (Nat.le_refl _))
  have HHt := Lib.hid (HHt.out.below hb (Nat.le_refl _))
  have HLq := Lib.hid (HLq.out.below hb (Nat.le_refl _))
  have HHq := Lib.hid (HHq.out.below hb (Nat.le_refl _))
  have HS8 := Lib.hid (cj.below HS8.out hb (Nat.le_refl _))
  have HT8 := Lib.hid (cj.below HT8.out hb (Nat.le_refl _))
  have HQ8 := Lib.hid (cj.below HQ8.out hb (Nat.le_refl _))
  have HA26 := Lib.hid (cf HA25.out hb)
  clear hb HA25
  clear HTx
  (obtain ⟨c0, c1, c2, c3, c4, c5, c6, c7⟩ := HT8.out.cells)
  go_wp2_with fail
  clear c0 c1 c2 c3 c4 c5 c6 c7
  have HTx := Lib.hid (fun v W (hv : cR W v (qi (8))) => (kt8 ▸ text_q v _ 1 W hv (jl _ (by decide) (by decide)) (by decide) : Calls Tryz.prog 14 #[v] W (ji W _)))
  refine (HTx.out _ _ HHt.out).mono ?_
  rintro e W27 ⟨rfl, hb⟩
  have HLs := Lib.hid (HLs.out.below hb (Nat.le_refl _))
  have HHs := Lib.hid (HHs.out.below hb (Nat.le_refl _))
  have HLt := Lib.hid (HLt.out.below hb (Nat.le_refl _))
  have HHt := Lib.hid (HHt.out.below hb (Nat.le_refl _))
  have HLq := Lib.hid (HLq.out.below hb (Nat.le_refl _))
  have HHq := Lib.hid (HHq.out.below hb (Nat.le_refl _))
  have HS8 := Lib.hid (cj.below HS8.out hb (Nat.le_refl _))
  have HT8 := Lib.hid (cj.below HT8.out hb (Nat.le_refl _))
  have HQ8 := Lib.hid (cj.below HQ8.out hb (Nat.le_refl _))
  have HA27 := Lib.hid (cf HA26.out hb)
  clear hb HA26
  clear HTx
  (obtain ⟨c0, c1, c2, c3, c4, c5, c6, c7⟩ := HS8.out.cells)
  go_wp2_with fail
  clear c0 c1 c2 c3 c4 c5 c6 c7
  have HSq := Lib.hid (fun v W h hG => square_any v (qi (-1)) (qi 2) 1 W h (jl _ (by decide) (by decide)) (jl _ (by decide) (by decide)) (by decide) hG)
  rw [kq] at HSq
  have HsS := Lib.hid (show IsS W27 (.agg #[.bool s1, u sa, u sb, .pointer sp, .bool s2, u sc, u sd, .pointer sq]) (qi (-1)) (qi 2) from ⟨_, _, _, _, _, _, _, _, rfl, HLs.out, HHs.out⟩)
  refine (HSq.out _ _ HsS.out (HG.out _ HA27.out)).mono ?_
  rintro e W28 ⟨vy, rfl, hvy, hb⟩
  have HLq := Lib.hid (HLq.out.below hb (Nat.le_refl _))
  have HHq := Lib.hid (HHq.out.below hb (Nat.le_refl _))
  have HQ8 := Lib.hid (cj.below HQ8.out hb (Nat.le_refl _))
  have HA28 := Lib.hid (cf HA27.out hb)
  have HVY := Lib.hid hvy
  clear hb HA27
  obtain ⟨y1, ya, yb, yp, y2, yc, yd, yq, rfl, hl, hh⟩ := hvy
  have HLy := Lib.hid hl
  clear hl hh HVY HSq HsS
  have hfd := field_low y1 y2 ya yb yc yd yp yq W28
  go_wp2_with fail
  clear hfd
  have HTx := Lib.hid (fun v W (hv : cR W v (qi (0))) => (kt0 ▸ text_q v _ 1 W hv (jl _ (by decide) (by decide)) (by decide) : Calls Tryz.prog 14 #[v] W (ji W _)))
  refine (HTx.out _ _ HLy.out).mono ?_
  rintro e W29 ⟨rfl, hb⟩
  have HLq := Lib.hid (HLq.out.below hb (Nat.le_refl _))
  have HHq := Lib.hid (HHq.out.below hb (Nat.le_refl _))
  have HQ8 := Lib.hid (cj.below HQ8.out hb (Nat.le_refl _))
  have HA29 := Lib.hid (cf HA28.out hb)
  clear hb HA28
  clear HTx
  (obtain ⟨c0, c1, c2, c3, c4, c5, c6, c7⟩ := HQ8.out.cells)
  go_wp2_with fail
  clear c0 c1 c2 c3 c4 c5 c6 c7
  have HTx := Lib.hid (fun v W (hv : cR W v (qi (-1))) => (kt1 ▸ text_q v _ 1 W hv (jl _ (by decide) (by decide)) (by decide) : Calls Tryz.prog 14 #[v] W (ji W _)))
  refine (HTx.out _ _ HLq.out).mono ?_
  rintro e W30 ⟨rfl, hb⟩
  have HLq := Lib.hid (HLq.out.below hb (Nat.le_refl _))
  have HHq := Lib.hid (HHq.out.below hb (Nat.le_refl _))
  have HQ8 := Lib.hid (cj.below HQ8.out hb (Nat.le_refl _))
  have HA30 := Lib.hid (cf HA29.out hb)
  clear hb HA29
  clear HTx
  (obtain ⟨c0, c1, c2, c3, c4, c5, c6, c7⟩ := HQ8.out.cells)
  go_wp2_with fail
  clear c0 c1 c2 c3 c4 c5 c6 c7
  have HTx := Lib.hid (fun v W (hv : cR W v (qi (3))) => (kt3 ▸ text_q v _ 1 W hv (jl _ (by decide) (by decide)) (by decide) : Calls Tryz.prog 14 #[v] W (ji W _)))
  refine (HTx.out _ _ HHq.out).mono ?_
  rintro e W31 ⟨rfl, hb⟩
  have HLq := Lib.hid (HLq.out.below hb (Nat.le_refl _))
  have HHq := Lib.hid (HHq.out.below hb (Nat.le_refl _))
  have HQ8 := Lib.hid (cj.below HQ8.out hb (Nat.le_refl _))
  have HA31 := Lib.hid (cf HA30.out hb)
  clear hb HA30
  clear HTx
  go_wp2_with fail
  exact bodyPost_ret (v := .bool true) (by simp [results, Tryz.results10, go_sem]) rfl ⟨rfl, HA31.out⟩
end Go.Proofs.YtccabfblgjcboaaGreatDoor
