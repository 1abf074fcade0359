/- Package exact: SpSquare SpQuad SpQuadr SpMath SpAbs SpOver KnownMath KnownBox Known LawNum LawEqual LawLong Ops OrdMath LawAt Cls. -/
import Derived.Test.YtccabfblgjcboaaGreatDoorF22
import Derived.KernelRfl
import Derived.Test.YtccabfblgjcboaaGreatDoorF3
set_option linter.all false

namespace Go.Proofs.YtccabfblgjcboaaGreatDoor
open Go Go.RowKit Go.Proofs Lim
theorem square1 (v : Value) (r : Rat) (k : Nat) (w : World) (h : js w v r) (z : cB r k) (hk : (k : Int) ≤ 1073741824) (hG : Gr w) :
 Calls Tryz.prog 110 #[v] w (jS w (r * r)) := by
 have HT := Lib.hid (fun W (hW : Below w.heap.size w W) => times_q v v r r k W (h.below hW (Nat.le_refl _)) (h.below hW (Nat.le_refl _)) z z hk (hG.below hW hG.size))
 obtain ⟨s1, a1, b1, p1, rfl⟩ := h.form
 clear h z hk hG
 generalize r * r = t at *
 go_enter Tryz.func110, Tryz.ntmps110
 go_wp2_with fail
 obtain ⟨W0, hW0, hb0, hx0, hz⟩ := box2w w (.bool s1) (u a1) (u b1) (.pointer p1); rw [← hW0]; clear hW0; obtain ⟨f0, f1, f2, f3⟩ := hx0.cells; have HZ := Lib.hid hz; have HW0 := Lib.hid hb0; have hb0 := Below.refl W0.heap.size W0; clear hz hx0; have n1 : ¬ w.heap.size = w.heap.size + 1 := (by omega); have n2 : ¬ w.heap.size + 1 = w.heap.size := (by omega)
 refine (HT.out _ (cf HW0.out hb0)).mono ?_
 rintro e W9 ⟨v, rfl, hv, hb⟩
 have hb3 := cf hb0 hb
 have hv' := hv
 obtain ⟨sg9, a9, b9, p9, rfl⟩ := hv'.form
 have hz := HZ.out.below hb3 (Nat.le_refl _)
 have hfin := jS.stored (a0 := .bool sg9) (a1 := u a9) (a2 := u b9) (a3 := .pointer p9) hz hv (cf HW0.out hb3) (by omega)
 have HFin := Lib.hid hfin
 (have hz := HZ.out.below hb3 (Nat.le_refl _); have zf := hz.frozen; obtain ⟨z0, z1, z2, z3⟩ := hz.cells; have zf0 := zf 0; have zf1 := zf 1; have zf2 := zf 2; have zf3 := zf 3; clear zf hz)
 clear hfin hv hv' hb hb0 hb3 hz HT f0 f1 f2 f3
 go_wp2_with fail
 refine bodyPost_ret (v := .agg #[.bool sg9, u a9, u b9, .pointer p9]) (by simp [results, Tryz.results110, go_sem, z0, z1, z2, z3]) rfl ?_
 exact HFin.out
theorem siz_zero_bits {r : Rat} (k : Nat) (h : cB r k) : 1 ≤ k := by
 rcases Nat.eq_zero_or_pos k with e | e
 · subst e
   have := h.2
   have := r.den_pos
   rw [Nat.pow_zero] at *
   omega
 · exact e
theorem zero_val (w : World) : js w (.agg #[.bool false, .int .u64 0, .int .u64 0, .pointer none]) 0 := Num.low 0 rfl rfl jh (show 1 < B by decide)
theorem square_any (v : Value) (lo hi : Rat) (k : Nat) (w : World) (h : IsS w v lo hi) (z1 : cB lo k) (z2 : cB hi k) (hk : ((k + k : Nat) : Int) ≤ 1073741824) (hG : Gr w) :
 Calls Tryz.prog 58 #[v] w (SpNew w (jq (lo * lo) (jt (hasQ lo hi 0) (hi * hi) (0 * 0))) (cY (lo * lo) (jt (hasQ lo hi 0) (hi * hi) (0 * 0)))) := by
 have k1 := siz_zero_bits k z1
 have z0 : cB 0 k := cB.zero k k1
 obtain ⟨s1, a1, b1, p1, s2, a2, b2, p2, rfl, i1, i2⟩ := h
 have HU := Lib.hid (fun bt ct W (hW : Below w.heap.size w W) c0 c1 c2 c3 => under_one 110 #[] #[] (enters_of Tryz.func110 (by kernel_rfl) rfl) s1 s2 a1 b1 a2 b2 p1 p2 lo hi 0 (lo * lo) (hi * hi) (0 * 0) (k + k) W
  bt 0 ct false 0 0 none (i1.below hW (Nat.le_refl _)) (i2.below hW (Nat.le_refl _)) (zero_val W) c0 c1 c2 c3
  (fun W' hW' => square1 _ lo k W' ((i1.below hW (Nat.le_refl _)).below hW' (Nat.le_refl _)) z1 (by omega) ((hG.below hW hG.size).below hW' (Nat.le_trans hG.size hW.size)))
  (fun W' hW' => square1 _ hi k W' ((i2.below hW (Nat.le_refl _)).below hW' (Nat.le_refl _)) z2 (by omega) ((hG.below hW hG.size).below hW' (Nat.le_trans hG.size hW.size)))
  (fun _ W' hW' => square1 _ 0 k W' (zero_val W') z0 (by omega) ((hG.below hW hG.size).below hW' (Nat.le_trans hG.size hW.size)))
  (z1.le (by omega)) (z2.le (by omega)) (z0.le (by omega)) (z1.mul z1) (z2.mul z2) (fun _ => z0.mul z0) hk)
 clear i1 i2 z1 z2 z0 k1 hk hG
 generalize jq (lo * lo) (jt (hasQ lo hi 0) (hi * hi) (0 * 0)) = l at *
 generalize cY (lo * lo) (jt (hasQ lo hi 0) (hi * hi) (0 * 0)) = g at *
 go_enter Tryz.func58, Tryz.ntmps58
 go_wp2_with fail
 obtain ⟨W0, hW0, hb0, _, hz, hs⟩ := box8z w (.bool s1) (u a1) (u b1) (.pointer p1) (.bool s2) (u a2) (u b2) (.pointer p2)
 rw [hW0]
 have hb1 := cC W0 (.cells #[.bool false, .int .u64 0, .int .u64 0, .pointer none] 26)
 rw [← hs]
 refine (HU.out _ 1 _ (cf hb0 hb1) (World.cell?_alloc_new ..) (World.cell?_alloc_new ..) (World.cell?_alloc_new ..) (World.cell?_alloc_new ..)).mono ?_
 rintro e W9 ⟨v, rfl, hv, hb⟩
 have hz9 : ZBox8 W9 (w.heap.size + 1) := ck.below (ck.below hz hb1 (Nat.le_refl _)) hb (Nat.le_refl _)
 have HB9 := Lib.hid (cf (cf hb0 hb1) hb)
 rw [hs]
 clear hb0 hz hs hW0 HU hb1
 (have hv' := hv; obtain ⟨t1, d1, e1, q1, t2, d2, e2, q2, rfl, _, _⟩ := hv'; have HFin := Lib.hid (SpNew.stored (ck.nbox hz9) hv HB9.out (by omega) (.bool t1) (u d1) (u e1) (.pointer q1) (.bool t2) (u d2) (u e2) (.pointer q2)); (obtain ⟨z0, z1, z2, z3, z4, z5, z6, z7⟩ := ck.cells hz9; have zf0 := ck.frozen hz9 0; have zf1 := ck.frozen hz9 1; have zf2 := ck.frozen hz9 2; have zf3 := ck.frozen hz9 3; have zf4 := ck.frozen hz9 4; have zf5 := ck.frozen hz9 5; have zf6 := ck.frozen hz9 6; have zf7 := ck.frozen hz9 7); clear hv hz9; clear hb; go_wp2_with fail; refine bodyPost_ret (v := .agg #[.bool t1, u d1, u e1, .pointer q1, .bool t2, u d2, u e2, .pointer q2]) (by simp [results, Tryz.results58, go_sem, z0, z1, z2, z3, z4, z5, z6, z7]) rfl ?_; exact HFin.out)
open Go Go.RowKit Go.Proofs Lim
def jg (a b c x : Rat) : Rat := (a * x + b) * x + c
structure Caught (w : World) (b1 b2 b3 : Nat) (s1 s2 s3 : Bool) (x1 y1 x2 y2 x3 y3 : Nat) (p1 p2 p3 : Option Addr) (a b c : Rat) : Prop where
 c1 : Box w b1 (.bool s1) (u x1) (u y1) (.pointer p1)
 c2 : Box w b2 (.bool s2) (u x2) (u y2) (.pointer p2)
 c3 : Box w b3 (.bool s3) (u x3) (u y3) (.pointer p3)
 q1 : js w (.agg #[.bool s1, u x1, u y1, .pointer p1]) a
 q2 : js w (.agg #[.bool s2, u x2, u y2, .pointer p2]) b
 q3 : js w (.agg #[.bool s3, u x3, u y3, .pointer p3]) c
theorem Caught.below {w w' : World} {b1 b2 b3 : Nat} {s1 s2 s3 : Bool} {x1 y1 x2 y2 x3 y3 : Nat} {p1 p2 p3 : Option Addr} {a b c : Rat} {k : Nat} (h : Caught w b1 b2 b3 s1 s2 s3 x1 y1 x2 y2 x3 y3 p1 p2 p3 a b c) (hb : Below k w w') (hk : w.heap.size ≤ k) :
 Caught w' b1 b2 b3 s1 s2 s3 x1 y1 x2 y2 x3 y3 p1 p2 p3 a b c :=
 ⟨h.c1.below hb hk, h.c2.below hb hk, h.c3.below hb hk, h.q1.below hb hk, h.q2.below hb hk, h.q3.below hb hk⟩
set_option maxHeartbeats 1000000 in
theorem quad1 (v : Value) (b1 b2 b3 : Nat) (s1 s2 s3 : Bool) (x1 y1 x2 y2 x3 y3 : Nat) (p1 p2 p3 : Option Addr) (a b c x : Rat) (k : Nat) (w : World) (hc : Caught w b1 b2 b3 s1 s2 s3 x1 y1 x2 y2 x3 y3 p1 p2 p3 a b c) (h : js w v x)
 (za : cB a k) (zb : cB b k) (zc : cB c k) (zx : cB x k) (hk : ((8 * k + 8 : Nat) : Int) ≤ 1073741824) (hG : Gr w) :
 Calls Tryz.prog 112 #[v, .pointer (some ⟨b1, 0, none⟩), .pointer (some ⟨b2, 0, none⟩), .pointer (some ⟨b3, 0, none⟩)] w (jS w (jg a b c x)) := by
 have w1 := za.mul zx
 have w2 := w1.add zb
 have w3 := (w2.le (show k + k + k + 1 ≤ 4 * k + 1 by omega)).mul (zx.le (show k ≤ 4 * k + 1 by omega))
 have HT1 := Lib.hid (fun W (hW : Below w.heap.size w W) => times_q _ v a x k W (hc.q1.below hW (Nat.le_refl _)) (h.below hW (Nat.le_refl _)) za zx (by omega) (hG.below hW hG.size))
 have HP1 := Lib.hid (fun y W (hy : js W y (a * x)) (hW : Below w.heap.size w W) => plus_q y _ (a * x) b (k + k) W hy (hc.q2.below hW (Nat.le_refl _)) w1 (zb.le (by omega)) (by omega) (hG.below hW hG.size))
 have HT2 := Lib.hid (fun y W (hy : js W y (a * x + b)) (hW : Below w.heap.size w W) => times_q y v (a * x + b) x (k + k + k + 1) W hy (h.below hW (Nat.le_refl _)) w2 (zx.le (by omega)) (by omega) (hG.below hW hG.size))
 have w3' := w2.mul zx
 have HP2 := Lib.hid (fun y W (hy : js W y ((a * x + b) * x)) (hW : Below w.heap.size w W) => plus_q y _ ((a * x + b) * x) c (k + k + k + 1 + k) W hy (hc.q3.below hW (Nat.le_refl _)) w3' (zc.le (by omega)) (by omega) (hG.below hW hG.size))
 obtain ⟨s, d, e, p, rfl⟩ := h.form
 have HC := Lib.hid hc
 unfold jg
 have m1 : b1 < w.heap.size := (Array.getElem?_eq_some_iff.1 hc.c1).1
 have m2 : b2 < w.heap.size := (Array.getElem?_eq_some_iff.1 hc.c2).1
 have m3 : b3 < w.heap.size := (Array.getElem?_eq_some_iff.1 hc.c3).1
 clear h hc w1 w2 w3 w3' za zb zc zx hk hG
 generalize a * x = r1 at *
 generalize r1 + b = r2 at *
 generalize r2 * x = r3 at *
 generalize r3 + c = r4 at *
 go_enter Tryz.func112, Tryz.ntmps112
 go_wp2_with fail
 obtain ⟨W0, hW0, hb0, hx0, hz⟩ := box2w w (.bool s) (u d) (u e) (.pointer p); rw [← hW0]; clear hW0; obtain ⟨f0, f1, f2, f3⟩ := hx0.cells; have HZ := Lib.hid hz; have HW0 := Lib.hid hb0; have hb0 := Below.refl W0.heap.size W0; clear hz hx0; have n1 : ¬ w.heap.size = w.heap.size + 1 := (by omega); have n2 : ¬ w.heap.size + 1 = w.heap.size := (by omega)
 have hc0 := HC.out.below HW0.out (Nat.le_refl _)
 have HC0 := Lib.hid hc0
 obtain ⟨g0, g1, g2, g3⟩ := hc0.c1.cells
 obtain ⟨h0, h1, h2, h3⟩ := hc0.c2.cells
 obtain ⟨i0, i1, i2, i3⟩ := hc0.c3.cells
 clear hc0
 have n3 : ¬ b1 = w.heap.size + 1 := by omega
 have n4 : ¬ w.heap.size + 1 = b1 := by omega
 have n5 : ¬ b2 = w.heap.size + 1 := by omega
 have n6 : ¬ w.heap.size + 1 = b2 := by omega
 have n7 : ¬ b3 = w.heap.size + 1 := by omega
 have n8 : ¬ w.heap.size + 1 = b3 := by omega
 go_region_held3 (fun w' => (w'.cell? ⟨w.heap.size, 0, none⟩ = some (.bool s) ∧ w'.cell? ⟨w.heap.size, 1, none⟩ = some (u d) ∧ w'.cell? ⟨w.heap.size, 2, none⟩ = some (u e) ∧ w'.cell? ⟨w.heap.size, 3, none⟩ = some (.pointer p)) ∧ (w'.cell? ⟨b1, 0, none⟩ = some (.bool s1) ∧ w'.cell? ⟨b1, 1, none⟩ = some (u x1) ∧ w'.cell? ⟨b1, 2, none⟩ = some (u y1) ∧ w'.cell? ⟨b1, 3, none⟩ = some (.pointer p1)) ∧ (w'.cell? ⟨b2, 0, none⟩ = some (.bool s2) ∧ w'.cell? ⟨b2, 1, none⟩ = some (u x2) ∧ w'.cell? ⟨b2, 2, none⟩ = some (u y2) ∧ w'.cell? ⟨b2, 3, none⟩ = some (.pointer p2)) ∧ (w'.cell? ⟨b3, 0, none⟩ = some (.bool s3) ∧ w'.cell? ⟨b3, 1, none⟩ = some (u x3) ∧ w'.cell? ⟨b3, 2, none⟩ = some (u y3) ∧ w'.cell? ⟨b3, 3, none⟩ = some (.pointer p3))) (go_keep) (first | ((with_reducible refine (HT1.out _ HW0.out.drew).mono ?_); rintro e W1 ⟨v1, rfl, hv1, hb⟩; obtain ⟨_, _, _, _, rfl⟩ := hv1.form; (have hh := cA (b := w.heap.size) hb f0 f1 f2 f3; clear f0 f1 f2 f3; obtain ⟨f0, f1, f2, f3⟩ := hh); have hb0 : Below W0.heap.size W0 W1 := (by first | exact ja hb0 hb | exact cf hb0 hb); have hcc := HC0.out.below hb0 (Nat.le_refl _); clear g0 g1 g2 g3 h0 h1 h2 h3 i0 i1 i2 i3; obtain ⟨g0, g1, g2, g3⟩ := hcc.c1.cells; obtain ⟨h0, h1, h2, h3⟩ := hcc.c2.cells; obtain ⟨i0, i1, i2, i3⟩ := hcc.c3.cells; clear hcc hb) | ((with_reducible refine (HP1.out _ _ hv1 (cf HW0.out hb0)).mono ?_); rintro e W2 ⟨v2, rfl, hv2, hb⟩; obtain ⟨_, _, _, _, rfl⟩ := hv2.form; (have hh := cA (b := w.heap.size) hb f0 f1 f2 f3; clear f0 f1 f2 f3; obtain ⟨f0, f1, f2, f3⟩ := hh); have hb0 : Below W0.heap.size W0 W2 := (by first | exact ja hb0 hb | exact cf hb0 hb); have hcc := HC0.out.below hb0 (Nat.le_refl _); clear g0 g1 g2 g3 h0 h1 h2 h3 i0 i1 i2 i3; obtain ⟨g0, g1, g2, g3⟩ := hcc.c1.cells; obtain ⟨h0, h1, h2, h3⟩ := hcc.c2.cells; obtain ⟨i0, i1, i2, i3⟩ := hcc.c3.cells; clear hcc hb) | ((with_reducible refine (HT2.out _ _ hv2 (cf HW0.out hb0)).mono ?_); rintro e W3 ⟨v3, rfl, hv3, hb⟩; obtain ⟨_, _, _, _, rfl⟩ := hv3.form; (have hh := cA (b := w.heap.size) hb f0 f1 f2 f3; clear f0 f1 f2 f3; obtain ⟨f0, f1, f2, f3⟩ := hh); have hb0 : Below W0.heap.size W0 W3 := (by first | exact ja hb0 hb | exact cf hb0 hb); have hcc := HC0.out.below hb0 (Nat.le_refl _); clear g0 g1 g2 g3 h0 h1 h2 h3 i0 i1 i2 i3; obtain ⟨g0, g1, g2, g3⟩ := hcc.c1.cells; obtain ⟨h0, h1, h2, h3⟩ := hcc.c2.cells; obtain ⟨i0, i1, i2, i3⟩ := hcc.c3.cells; clear hcc hb) | ((with_reducible refine (HP2.out _ _ hv3 (cf HW0.out hb0)).mono ?_); rintro e W4 ⟨v4, rfl, hv4, hb⟩; have hv' := hv4; obtain ⟨sg9, a9, b9, p9, rfl⟩ := hv'.form; (have hh := cA (b := w.heap.size) hb f0 f1 f2 f3; clear f0 f1 f2 f3; obtain ⟨f0, f1, f2, f3⟩ := hh); have hb0 : Below W0.heap.size W0 W4 := (by first | exact ja hb0 hb | exact cf hb0 hb); have hcc := HC0.out.below hb0 (Nat.le_refl _); clear g0 g1 g2 g3 h0 h1 h2 h3 i0 i1 i2 i3; obtain ⟨g0, g1, g2, g3⟩ := hcc.c1.cells; obtain ⟨h0, h1, h2, h3⟩ := hcc.c2.cells; obtain ⟨i0, i1, i2, i3⟩ := hcc.c3.cells; clear hcc hb; (have hz := HZ.out.below hb0 (Nat.le_refl _); have zf := hz.frozen; obtain ⟨z0, z1, z2, z3⟩ := hz.cells; have zf0 := zf 0; have zf1 := zf 1; have zf2 := zf 2; have zf3 := zf 3; clear zf hz)))
 have hz := HZ.out.below hb0 (Nat.le_refl _)
 have hfin := jS.stored (a0 := .bool sg9) (a1 := u a9) (a2 := u b9) (a3 := .pointer p9) hz hv4 (cf HW0.out hb0) (by omega)
 have HFin := Lib.hid hfin
 clear hfin hv1 hv2 hv3 hv4 hv' hb0 hz f0 f1 f2 f3 g0 g1 g2 g3 h0 h1 h2 h3 i0 i1 i2 i3
 go_wp2_with fail
 refine bodyPost_ret (v := .agg #[.bool sg9, u a9, u b9, .pointer p9]) (by simp [results, Tryz.results112, go_sem, z0, z1, z2, z3]) rfl ?_
 exact HFin.out
open Go Go.RowKit Go.Proofs Lim
def turnOf (a b : Rat) : Rat := -b * (a + a)⁻¹
def kb (a b c lo hi : Rat) : List Rat := if a.num = 0 then [jg a b c hi] else jt (hasQ lo hi (turnOf a b)) (jg a b c hi) (jg a b c (turnOf a b))
theorem box38z (w : World) (a0 a1 a2 a3 b0 b1 b2 b3 c0 c1 c2 c3 d0 d1 d2 d3 d4 d5 d6 d7 : Value) : ∃ W, ((((w.alloc (.cells #[a0, a1, a2, a3] 26)).alloc (.cells #[b0, b1, b2, b3] 26)).alloc (.cells #[c0, c1, c2, c3] 26)).alloc (.cells #[d0, d1, d2, d3, d4, d5, d6, d7] 66)).alloc (.cells #[.bool false, .int .u64 0, .int .u64 0, .pointer none, .bool false, .int .u64 0, .int .u64 0, .pointer none] 66) = W ∧
 Below w.heap.size w W ∧ Box W w.heap.size a0 a1 a2 a3 ∧ Box W (w.heap.size + 1) b0 b1 b2 b3 ∧ Box W (w.heap.size + 1 + 1) c0 c1 c2 c3 ∧ ck W (w.heap.size + 1 + 1 + 1) d0 d1 d2 d3 d4 d5 d6 d7 ∧ ZBox8 W (w.heap.size + 1 + 1 + 1 + 1) ∧ W.heap.size = w.heap.size + 1 + 1 + 1 + 1 + 1 := by
 obtain ⟨W1, hW1, hb1, h1, h2, hs1⟩ := box2b w a0 a1 a2 a3 b0 b1 b2 b3
 have hb2 := cC W1 (.cells #[c0, c1, c2, c3] 26)
 have h3 : Box _ W1.heap.size c0 c1 c2 c3 := heap_alloc_new W1 (.cells #[c0, c1, c2, c3] 26)
 have hs2 : (W1.alloc (.cells #[c0, c1, c2, c3] 26)).heap.size = w.heap.size + 1 + 1 + 1 := by rw [World.size_alloc, hs1]
 rw [hs1] at h3
 rw [hW1]
 generalize W1.alloc (.cells #[c0, c1, c2, c3] 26) = W2 at *
 obtain ⟨W3, hW3, hb3, h4, h5, hs3⟩ := box8z W2 d0 d1 d2 d3 d4 d5 d6 d7
 rw [hs2] at h4 h5 hs3
 exact ⟨W3, hW3, cf (cf hb1 hb2) hb3, (h1.below hb2 (Nat.le_refl _)).below hb3 (Nat.le_refl _), (h2.below hb2 (Nat.le_refl _)).below hb3 (Nat.le_refl _), h3.below hb3 (Nat.le_refl _), h4, h5, hs3⟩
theorem quad_siz {a b c x : Rat} {k : Nat} (za : cB a k) (zb : cB b k) (zc : cB c k) (zx : cB x k) : cB (jg a b c x) (5 * k + 2) :=
 (((((za.mul zx).add zb).mul zx).add zc)).le (by omega)
theorem turn_siz {a b : Rat} {k : Nat} (za : cB a k) (zb : cB b k) (h : (a + a).num ≠ 0) : cB (turnOf a b) (3 * k + 1) :=
 (zb.neg.mul ((za.add za).inv h)).le (by omega)
theorem double_ne {a : Rat} (h : a.num ≠ 0) : (a + a).num ≠ 0 := by
 intro e
 have h2 : a + a = 0 := Rat.num_eq_zero.1 e
 have h3 : a * 2 = 0 := by
  rw [← h2]
  grind
 rcases Rat.mul_eq_zero.1 h3 with h4 | h4
 · exact h (by rw [h4]; rfl)
 · exact absurd h4 (by decide)
set_option maxHeartbeats 2000000 in
theorem quadratic_any (va vb vc vs : Value) (a b c lo hi : Rat) (k : Nat) (w : World) (ha : js w va a) (hb : js w vb b) (hc : js w vc c) (hs : IsS w vs lo hi)
 (za : cB a k) (zb : cB b k) (zc : cB c k) (zl : cB lo k) (zh : cB hi k) (hk : ((100 * k + 100 : Nat) : Int) ≤ 1073741824) (hG : Gr w) :
 Calls Tryz.prog 70 #[va, vb, vc, vs] w (SpNew w (jq (jg a b c lo) (kb a b c lo hi)) (cY (jg a b c lo) (kb a b c lo hi))) := by
 obtain ⟨s1, x1, y1, p1, rfl⟩ := ha.form
 obtain ⟨s2, x2, y2, p2, rfl⟩ := hb.form
 obtain ⟨s3, x3, y3, p3, rfl⟩ := hc.form
 obtain ⟨s4, x4, y4, p4, s5, x5, y5, p5, rfl, hl, hh⟩ := hs
 have HQ := Lib.hid (fun W (hW : Below w.heap.size w W) (e1 : Box W w.heap.size (.bool s1) (u x1) (u y1) (.pointer p1)) (e2 : Box W (w.heap.size + 1) (.bool s2) (u x2) (u y2) (.pointer p2)) (e3 : Box W (w.heap.size + 1 + 1) (.bool s3) (u x3) (u y3) (.pointer p3)) =>
  (⟨e1, e2, e3, ha.below hW (Nat.le_refl _), hb.below hW (Nat.le_refl _), hc.below hW (Nat.le_refl _)⟩ : Caught W w.heap.size (w.heap.size + 1) (w.heap.size + 1 + 1) s1 s2 s3 x1 y1 x2 y2 x3 y3 p1 p2 p3 a b c))
 have HF := Lib.hid (fun v x j W (hca : Caught W w.heap.size (w.heap.size + 1) (w.heap.size + 1 + 1) s1 s2 s3 x1 y1 x2 y2 x3 y3 p1 p2 p3 a b c) (hv : js W v x) (zx : cB x j) (hj : k ≤ j) (hj2 : j ≤ 3 * k + 1) (hW : Below w.heap.size w W) =>
  quad1 v w.heap.size (w.heap.size + 1) (w.heap.size + 1 + 1) s1 s2 s3 x1 y1 x2 y2 x3 y3 p1 p2 p3 a b c x j W hca hv (za.le hj) (zb.le hj) (zc.le hj) zx (by omega) (hG.below hW hG.size))
 have HSg := Lib.hid (fun W (hW : Below w.heap.size w W) => sign_q _ a W (ha.below hW (Nat.le_refl _)))
 have HL := Lib.hid (And.intro hl hh)
 by_cases h0 : a.num = 0
 · have hv : kb a b c lo hi = [jg a b c hi] := by unfold kb; rw [if_pos h0]
   rw [hv]
   have HU := Lib.hid (fun W W0 (hW : Below w.heap.size w W) (hca : Caught W w.heap.size (w.heap.size + 1) (w.heap.size + 1 + 1) s1 s2 s3 x1 y1 x2 y2 x3 y3 p1 p2 p3 a b c) (_ : W0 = W) =>
    under_none 112 #[] #[.pointer (some ⟨w.heap.size, 0, none⟩), .pointer (some ⟨w.heap.size + 1, 0, none⟩), .pointer (some ⟨w.heap.size + 1 + 1, 0, none⟩)] (enters_of Tryz.func112 (by kernel_rfl) rfl) s4 s5 x4 y4 x5 y5 p4 p5 (jg a b c lo) (jg a b c hi) 0 (5 * k + 2) W
    (fun W' hW' => HF.out _ lo k W' (hca.below hW' (Nat.le_refl _)) ((hl.below hW (Nat.le_refl _)).below hW' (Nat.le_refl _)) zl (Nat.le_refl _) (by omega) (hW.trans (hW'.mono hW.size)))
    (fun W' hW' => HF.out _ hi k W' (hca.below hW' (Nat.le_refl _)) ((hh.below hW (Nat.le_refl _)).below hW' (Nat.le_refl _)) zh (Nat.le_refl _) (by omega) (hW.trans (hW'.mono hW.size)))
    (quad_siz za zb zc zl) (quad_siz za zb zc zh) (by omega))
   have hsg : ((sign a : Int) == 0) = true := by unfold sign; rw [if_pos h0]; rfl
   clear ha hb hc hl hh hG za zb zc zl zh hk hv h0 HF
   generalize jg a b c lo = l at *
   generalize jg a b c hi = g at *
   generalize jq l [g] = lw at *
   generalize cY l [g] = hg at *
   generalize sign a = sv at *
   go_enter Tryz.func70, Tryz.ntmps70
   go_wp2_with fail
   obtain ⟨W0, hW0, hb0, e1, e2, e3, e4, hz, hs⟩ := box38z w (.bool s1) (u x1) (u y1) (.pointer p1) (.bool s2) (u x2) (u y2) (.pointer p2) (.bool s3) (u x3) (u y3) (.pointer p3) (.bool s4) (u x4) (u y4) (.pointer p4) (.bool s5) (u x5) (u y5) (.pointer p5)
   rw [hW0]
   have HCa := Lib.hid (HQ.out W0 hb0 e1 e2 e3)
   refine (HSg.out _ hb0).mono ?_
   rintro e W1 ⟨rfl, hbb⟩
   have HCa := Lib.hid (HCa.out.below hbb (Nat.le_refl _))
   have HB1 := Lib.hid (cf hb0 hbb)
   have hX := ck.below e4 hbb (Nat.le_refl _)
   have HZ := Lib.hid (ck.below hz hbb (Nat.le_refl _))
   (obtain ⟨c0, c1, c2, c3, c4, c5, c6, c7⟩ := hX.cells)
   clear hX hbb hb0 e1 e2 e3 e4 hz hs hW0 HSg HQ
   go_wp2_with fail
   refine (HU.out _ _ HB1.out HCa.out rfl).mono ?_
   rintro e W9 ⟨v, rfl, hv, hb⟩
   have hz9 : ZBox8 W9 (w.heap.size + 1 + 1 + 1 + 1) := ck.below HZ.out hb (Nat.le_refl _)
   have HB9 := Lib.hid (cf HB1.out hb)
   clear HZ HB1 HCa HU c0 c1 c2 c3 c4 c5 c6 c7
   (have hv' := hv; obtain ⟨t1, d1, e1, q1, t2, d2, e2, q2, rfl, _, _⟩ := hv'; have HFin := Lib.hid (SpNew.stored (ck.nbox hz9) hv HB9.out (by omega) (.bool t1) (u d1) (u e1) (.pointer q1) (.bool t2) (u d2) (u e2) (.pointer q2)); (obtain ⟨z0, z1, z2, z3, z4, z5, z6, z7⟩ := ck.cells hz9; have zf0 := ck.frozen hz9 0; have zf1 := ck.frozen hz9 1; have zf2 := ck.frozen hz9 2; have zf3 := ck.frozen hz9 3; have zf4 := ck.frozen hz9 4; have zf5 := ck.frozen hz9 5; have zf6 := ck.frozen hz9 6; have zf7 := ck.frozen hz9 7); clear hv hz9; clear hb; go_wp2_with fail; refine bodyPost_ret (v := .agg #[.bool t1, u d1, u e1, .pointer q1, .bool t2, u d2, u e2, .pointer q2]) (by simp [results, Tryz.results70, go_sem, z0, z1, z2, z3, z4, z5, z6, z7]) rfl ?_; exact HFin.out)
 · have hv : kb a b c lo hi = jt (hasQ lo hi (turnOf a b)) (jg a b c hi) (jg a b c (turnOf a b)) := by unfold kb; rw [if_neg h0]
   rw [hv]
   have hd := double_ne h0
   have zt := turn_siz za zb hd
   have HU := Lib.hid (fun bt ct s6 x6 y6 p6 W (hW : Below w.heap.size w W) (hca : Caught W w.heap.size (w.heap.size + 1) (w.heap.size + 1 + 1) s1 s2 s3 x1 y1 x2 y2 x3 y3 p1 p2 p3 a b c) (ht : js W (.agg #[.bool s6, u x6, u y6, .pointer p6]) (turnOf a b)) c0 c1 c2 c3 =>
    under_one 112 #[] #[.pointer (some ⟨w.heap.size, 0, none⟩), .pointer (some ⟨w.heap.size + 1, 0, none⟩), .pointer (some ⟨w.heap.size + 1 + 1, 0, none⟩)] (enters_of Tryz.func112 (by kernel_rfl) rfl) s4 s5 x4 y4 x5 y5 p4 p5 lo hi (turnOf a b) (jg a b c lo) (jg a b c hi) (jg a b c (turnOf a b)) (5 * (3 * k + 1) + 2) W
    bt 0 ct s6 x6 y6 p6 (hl.below hW (Nat.le_refl _)) (hh.below hW (Nat.le_refl _)) ht c0 c1 c2 c3
    (fun W' hW' => HF.out _ lo k W' (hca.below hW' (Nat.le_refl _)) ((hl.below hW (Nat.le_refl _)).below hW' (Nat.le_refl _)) zl (Nat.le_refl _) (by omega) (hW.trans (hW'.mono hW.size)))
    (fun W' hW' => HF.out _ hi k W' (hca.below hW' (Nat.le_refl _)) ((hh.below hW (Nat.le_refl _)).below hW' (Nat.le_refl _)) zh (Nat.le_refl _) (by omega) (hW.trans (hW'.mono hW.size)))
    (fun _ W' hW' => HF.out _ (turnOf a b) (3 * k + 1) W' (hca.below hW' (Nat.le_refl _)) (ht.below hW' (Nat.le_refl _)) zt (by omega) (Nat.le_refl _) (hW.trans (hW'.mono hW.size)))
    (zl.le (by omega)) (zh.le (by omega)) (zt.le (by omega)) ((quad_siz za zb zc zl).le (by omega)) ((quad_siz za zb zc zh).le (by omega)) (fun _ => quad_siz (za.le (by omega)) (zb.le (by omega)) (zc.le (by omega)) zt) (by omega))
   have HN := Lib.hid (fun W (hW : Below w.heap.size w W) => neg_q _ b W (hb.below hW (Nat.le_refl _)))
   have HP := Lib.hid (fun W (hW : Below w.heap.size w W) => plus_q _ _ a a k W (ha.below hW (Nat.le_refl _)) (ha.below hW (Nat.le_refl _)) za za (by omega) (hG.below hW hG.size))
   have HR := Lib.hid (fun v W (hv : js W v (a + a)) => recip_q v _ W hv hd)
   have HT := Lib.hid (fun v1 v2 W (h1 : js W v1 (-b)) (h2 : js W v2 (a + a)⁻¹) (hW : Below w.heap.size w W) => show Calls Tryz.prog 29 #[v1, v2] W (jS W (turnOf a b)) from times_q v1 v2 (-b) (a + a)⁻¹ (k + k + 1) W h1 h2 (zb.neg.le (by omega)) ((za.add za).inv hd) (by omega) (hG.below hW hG.size))
   have hsg : ((sign a : Int) == 0) = false := by unfold sign; rw [if_neg h0]; split <;> rfl
   clear ha hb hc hl hh hG za zb zc zl zh hk hv h0 HF zt hd
   generalize turnOf a b = t at *
   generalize hasQ lo hi t = hq at *
   generalize jg a b c lo = l at *
   generalize jg a b c hi = g at *
   generalize jg a b c t = g2 at *
   generalize jq l (jt hq g g2) = lw at *
   generalize cY l (jt hq g g2) = hg at *
   generalize sign a = sv at *
   generalize (a + a)⁻¹ = ri at *
   generalize a + a = aa at *
   generalize -b = nb at *
   go_enter Tryz.func70, Tryz.ntmps70
   go_wp2_with fail
   obtain ⟨W0, hW0, hb0, e1, e2, e3, e4, hz, hs⟩ := box38z w (.bool s1) (u x1) (u y1) (.pointer p1) (.bool s2) (u x2) (u y2) (.pointer p2) (.bool s3) (u x3) (u y3) (.pointer p3) (.bool s4) (u x4) (u y4) (.pointer p4) (.bool s5) (u x5) (u y5) (.pointer p5)
   rw [hW0]
   have HCa := Lib.hid (HQ.out W0 hb0 e1 e2 e3)
   refine (HSg.out _ hb0).mono ?_
   rintro e W1 ⟨rfl, hbb⟩
   have HCa := Lib.hid (HCa.out.below hbb (Nat.le_refl _))
   have HB1 := Lib.hid (cf hb0 hbb)
   have hX := ck.below e4 hbb (Nat.le_refl _)
   have HX := Lib.hid hX
   have HZ := Lib.hid (ck.below hz hbb (Nat.le_refl _))
   have HC1 := Lib.hid HCa.out.c1
   have HC2 := Lib.hid HCa.out.c2
   obtain ⟨g0, g1, g2', g3⟩ := HC1.out.cells
   obtain ⟨h0, h1, h2, h3⟩ := HC2.out.cells
   (obtain ⟨c0, c1, c2, c3, c4, c5, c6, c7⟩ := hX.cells)
   have n1 : ¬ w.heap.size = w.heap.size + 1 + 1 + 1 + 1 := by omega
   have n2 : ¬ w.heap.size + 1 + 1 + 1 + 1 = w.heap.size := by omega
   have n3 : ¬ w.heap.size + 1 = w.heap.size + 1 + 1 + 1 + 1 := by omega
   have n4 : ¬ w.heap.size + 1 + 1 + 1 + 1 = w.heap.size + 1 := by omega
   have n5 : ¬ w.heap.size + 1 + 1 + 1 = w.heap.size + 1 + 1 + 1 + 1 := by omega
   have n6 : ¬ w.heap.size + 1 + 1 + 1 + 1 = w.heap.size + 1 + 1 + 1 := by omega
   have n7 : ¬ w.heap.size = w.heap.size + 1 + 1 + 1 := by omega
   have n8 : ¬ w.heap.size + 1 + 1 + 1 = w.heap.size := by omega
   clear hX hbb hb0 e1 e2 e3 e4 hz hs hW0 HSg HQ
   have hb0 := Below.refl W1.heap.size W1
   go_wp2_with fail
   go_region_held3 (fun w' => (w'.cell? ⟨w.heap.size, 0, none⟩ = some (.bool s1) ∧ w'.cell? ⟨w.heap.size, 1, none⟩ = some (u x1) ∧ w'.cell? ⟨w.heap.size, 2, none⟩ = some (u y1) ∧ w'.cell? ⟨w.heap.size, 3, none⟩ = some (.pointer p1)) ∧ (w'.cell? ⟨w.heap.size + 1, 0, none⟩ = some (.bool s2) ∧ w'.cell? ⟨w.heap.size + 1, 1, none⟩ = some (u x2) ∧ w'.cell? ⟨w.heap.size + 1, 2, none⟩ = some (u y2) ∧ w'.cell? ⟨w.heap.size + 1, 3, none⟩ = some (.pointer p2)) ∧ (w'.cell? ⟨w.heap.size + 1 + 1 + 1, 0, none⟩ = some (.bool s4) ∧ w'.cell? ⟨w.heap.size + 1 + 1 + 1, 1, none⟩ = some (u x4) ∧ w'.cell? ⟨w.heap.size + 1 + 1 + 1, 2, none⟩ = some (u y4) ∧ w'.cell? ⟨w.heap.size + 1 + 1 + 1, 3, none⟩ = some (.pointer p4) ∧ w'.cell? ⟨w.heap.size + 1 + 1 + 1, 4, none⟩ = some (.bool s5) ∧ w'.cell? ⟨w.heap.size + 1 + 1 + 1, 5, none⟩ = some (u x5) ∧ w'.cell? ⟨w.heap.size + 1 + 1 + 1, 6, none⟩ = some (u y5) ∧ w'.cell? ⟨w.heap.size + 1 + 1 + 1, 7, none⟩ = some (.pointer p5))) (go_keep) (first | ((with_reducible refine (HN.out _ HB1.out.drew).mono ?_); rintro e W2 ⟨v2, rfl, hv2, hb⟩; obtain ⟨_, _, _, _, rfl⟩ := hv2.form; have hb0 : Below W1.heap.size W1 W2 := (by first | exact ja hb0 hb | exact cf hb0 hb); clear g0 g1 g2' g3 h0 h1 h2 h3 c0 c1 c2 c3 c4 c5 c6 c7; obtain ⟨g0, g1, g2', g3⟩ := (HC1.out.below hb0 (Nat.le_refl _)).cells; obtain ⟨h0, h1, h2, h3⟩ := (HC2.out.below hb0 (Nat.le_refl _)).cells; have hX := ck.below HX.out hb0 (Nat.le_refl _); (obtain ⟨c0, c1, c2, c3, c4, c5, c6, c7⟩ := hX.cells); clear hX hb) | ((with_reducible refine (HP.out _ (cf HB1.out hb0)).mono ?_); rintro e W3 ⟨v3, rfl, hv3, hb⟩; obtain ⟨_, _, _, _, rfl⟩ := hv3.form; have hv2 := hv2.below hb (Nat.le_refl _); have hb0 : Below W1.heap.size W1 W3 := (by first | exact ja hb0 hb | exact cf hb0 hb); clear g0 g1 g2' g3 h0 h1 h2 h3 c0 c1 c2 c3 c4 c5 c6 c7; obtain ⟨g0, g1, g2', g3⟩ := (HC1.out.below hb0 (Nat.le_refl _)).cells; obtain ⟨h0, h1, h2, h3⟩ := (HC2.out.below hb0 (Nat.le_refl _)).cells; have hX := ck.below HX.out hb0 (Nat.le_refl _); (obtain ⟨c0, c1, c2, c3, c4, c5, c6, c7⟩ := hX.cells); clear hX hb) | ((with_reducible refine (HR.out _ _ hv3).mono ?_); rintro e W4 ⟨v4, rfl, hv4, hb⟩; obtain ⟨_, _, _, _, rfl⟩ := hv4.form; have hv2 := hv2.below hb (Nat.le_refl _); have hb0 : Below W1.heap.size W1 W4 := (by first | exact ja hb0 hb | exact cf hb0 hb); clear g0 g1 g2' g3 h0 h1 h2 h3 c0 c1 c2 c3 c4 c5 c6 c7; obtain ⟨g0, g1, g2', g3⟩ := (HC1.out.below hb0 (Nat.le_refl _)).cells; obtain ⟨h0, h1, h2, h3⟩ := (HC2.out.below hb0 (Nat.le_refl _)).cells; have hX := ck.below HX.out hb0 (Nat.le_refl _); (obtain ⟨c0, c1, c2, c3, c4, c5, c6, c7⟩ := hX.cells); clear hX hb) | ((with_reducible refine (HT.out _ _ _ hv2 hv4 (cf HB1.out hb0)).mono ?_); rintro e W5 ⟨v5, rfl, hv5, hb⟩; obtain ⟨s6, x6, y6, p6, rfl⟩ := hv5.form; have hb0 : Below W1.heap.size W1 W5 := (by first | exact ja hb0 hb | exact cf hb0 hb); clear g0 g1 g2' g3 h0 h1 h2 h3 c0 c1 c2 c3 c4 c5 c6 c7; obtain ⟨g0, g1, g2', g3⟩ := (HC1.out.below hb0 (Nat.le_refl _)).cells; obtain ⟨h0, h1, h2, h3⟩ := (HC2.out.below hb0 (Nat.le_refl _)).cells; have hX := ck.below HX.out hb0 (Nat.le_refl _); (obtain ⟨c0, c1, c2, c3, c4, c5, c6, c7⟩ := hX.cells); clear hX hb) | ((with_reducible refine (HU.out _ 1 _ _ _ _ _ (cf (cf HB1.out hb0) (cC W5 _)) (HCa.out.below (cf hb0 (cC W5 _)) (Nat.le_refl _)) (hv5.below (cC W5 _) (Nat.le_refl _)) (World.cell?_alloc_new ..) (World.cell?_alloc_new ..) (World.cell?_alloc_new ..) (World.cell?_alloc_new ..)).mono ?_); rintro e W9 ⟨v, rfl, hv, hb'⟩; have hb := cf (cC W5 _) hb'; clear hb'; have hb0 : Below W1.heap.size W1 W9 := (by first | exact ja hb0 hb | exact cf hb0 hb); clear g0 g1 g2' g3 h0 h1 h2 h3 c0 c1 c2 c3 c4 c5 c6 c7; obtain ⟨g0, g1, g2', g3⟩ := (HC1.out.below hb0 (Nat.le_refl _)).cells; obtain ⟨h0, h1, h2, h3⟩ := (HC2.out.below hb0 (Nat.le_refl _)).cells; have hX := ck.below HX.out hb0 (Nat.le_refl _); (obtain ⟨c0, c1, c2, c3, c4, c5, c6, c7⟩ := hX.cells); clear hX hb; have hv' := hv; obtain ⟨t1, d1, e1, q1, t2, d2, e2, q2, rfl, _, _⟩ := hv'; have hz9 := ck.below HZ.out hb0 (Nat.le_refl _); (obtain ⟨z0, z1, z2, z3, z4, z5, z6, z7⟩ := ck.cells hz9; have zf0 := ck.frozen hz9 0; have zf1 := ck.frozen hz9 1; have zf2 := ck.frozen hz9 2; have zf3 := ck.frozen hz9 3; have zf4 := ck.frozen hz9 4; have zf5 := ck.frozen hz9 5; have zf6 := ck.frozen hz9 6; have zf7 := ck.frozen hz9 7)))
   have HFin := Lib.hid (SpNew.stored (ck.nbox hz9) hv (cf HB1.out hb0) (by omega) (.bool t1) (u d1) (u e1) (.pointer q1) (.bool t2) (u d2) (u e2) (.pointer q2))
   clear hv hz9 hb0 hv2 hv3 hv4 hv5 c0 c1 c2 c3 c4 c5 c6 c7 g0 g1 g2' g3 h0 h1 h2 h3
   go_wp2_with fail
   refine bodyPost_ret (v := .agg #[.bool t1, u d1, u e1, .pointer q1, .bool t2, u d2, u e2, .pointer q2]) (by simp [results, Tryz.results70, go_sem, z0, z1, z2, z3, z4, z5, z6, z7]) rfl ?_
   exact HFin.out
open Go Go.RowKit Go.Proofs Lim
def Btw (a b x : Rat) : Prop := (a ≤ x ∧ x ≤ b) ∨ (b ≤ x ∧ x ≤ a)
theorem Btw.right (a b : Rat) : Btw a b b := by
 rcases (Rat.le_total : a ≤ b ∨ b ≤ a) with h | h
 · exact .inl ⟨h, Rat.le_refl⟩
 · exact .inr ⟨Rat.le_refl, h⟩
theorem num_zero {a : Rat} : a.num = 0 ↔ a = 0 := Rat.num_eq_zero
open Go Go.RowKit Go.Proofs Lim
open Go Go.RowKit Go.Proofs Lim
abbrev zspan : Value := .agg #[.bool false, .int .u64 0, .int .u64 0, .pointer none, .bool false, .int .u64 0, .int .u64 0, .pointer none]
theorem zspan_is (w : World) : IsS w zspan 0 0 := ⟨_, 0, 0, _, _, 0, 0, _, rfl, zero_val w, zero_val w⟩
open Go Go.RowKit Go.Proofs Lim
theorem nt_small : cr 0 = [48] ∧ cr 1 = [49] ∧ cr 2 = [50] ∧ cr 3 = [51] ∧ cr 4 = [52] ∧ cr 8 = [56] := by
 refine ⟨?_, ?_, ?_, ?_, ?_, ?_⟩ <;> simp [cr, digs_pos, digs_zero, dbyte]
theorem qtext_of {r : Rat} {i : Int} {d : Nat} (h1 : r.num = i) (h2 : r.den = d) : jv r = (if i < 0 then [45] else []) ++ cr i.natAbs ++ (if d = 1 then [] else 47 :: cr d) := by
 unfold jv
 rw [h1, h2]
abbrev qi (i : Int) : Rat := (i : Rat)
theorem kx : jv (qi 6 / qi (-4)) = [45, 51, 47, 50] := by
 rw [qtext_of (i := -3) (d := 2) (by kernel_rfl) (by kernel_rfl)]
 show [45] ++ cr 3 ++ (47 :: cr 2) = _
 rw [nt_small.2.2.2.1, nt_small.2.2.1]; rfl
theorem kxf : jv (((qi 6 / qi (-4)).floor : Int) : Rat) = [45, 50] := by
 rw [show (qi 6 / qi (-4)).floor = -2 by kernel_rfl, qtext_of (i := -2) (d := 1) rfl rfl]
 show [45] ++ cr 2 ++ [] = _
 rw [nt_small.2.2.1]; rfl
theorem kxc : jv (((qi 6 / qi (-4)).ceil : Int) : Rat) = [45, 49] := by
 rw [show (qi 6 / qi (-4)).ceil = -1 by kernel_rfl, qtext_of (i := -1) (d := 1) rfl rfl]
 show [45] ++ cr 1 ++ [] = _
 rw [nt_small.2.1]; rfl
theorem kread : jw [54, 47, 52] = (0, 4) := by
 refine (readQ_some (r := mkRat 3 2) (by decide) (by kernel_rfl)).trans (if_neg ?_)
 rw [qtext_of (i := 3) (d := 2) (by kernel_rfl) (by kernel_rfl)]
 show ¬ ([] ++ cr 3 ++ (47 :: cr 2) = _)
 rw [nt_small.2.2.2.1, nt_small.2.2.1]
 decide
theorem ks : jq (qi 2) [qi (-1)] = qi (-1) ∧ cY (qi 2) [qi (-1)] = qi 2 := ⟨by kernel_rfl, by kernel_rfl⟩
theorem kr : jq (qi 3) [qi 4] = qi 3 ∧ cY (qi 3) [qi 4] = qi 4 := ⟨by kernel_rfl, by kernel_rfl⟩
theorem kv : jq (qi 0) [qi 3] = qi 0 ∧ cY (qi 0) [qi 3] = qi 3 := ⟨by kernel_rfl, by kernel_rfl⟩
theorem kt : wLow (fun r s => r * s) (qi (-1)) (qi 2) (qi 3) (qi 4) = qi (-4) ∧ wHigh (fun r s => r * s) (qi (-1)) (qi 2) (qi 3) (qi 4) = qi 8 := ⟨by kernel_rfl, by kernel_rfl⟩
theorem kq : jq (qi (-1) * qi (-1)) (jt (hasQ (qi (-1)) (qi 2) 0) (qi 2 * qi 2) (0 * 0)) = qi 0 := by kernel_rfl
theorem ku : jq (jg (qi 1) (qi (-2)) (qi 0) (qi 0)) (kb (qi 1) (qi (-2)) (qi 0) (qi 0) (qi 3)) = qi (-1) ∧ cY (jg (qi 1) (qi (-2)) (qi 0) (qi 0)) (kb (qi 1) (qi (-2)) (qi 0) (qi 0) (qi 3)) = qi 3 := ⟨by kernel_rfl, by kernel_rfl⟩
theorem kt4 : jv (qi (-4)) = [45, 52] := by
 rw [qtext_of (i := -4) (d := 1) rfl rfl]
 show [45] ++ cr 4 ++ [] = _
 rw [nt_small.2.2.2.2.1]; rfl
theorem kt8 : jv (qi 8) = [56] := by
 rw [qtext_of (i := 8) (d := 1) rfl rfl]
 show [] ++ cr 8 ++ [] = _
 rw [nt_small.2.2.2.2.2]; rfl
theorem kt0 : jv (qi 0) = [48] := by
 rw [qtext_of (i := 0) (d := 1) rfl rfl]
 show [] ++ cr 0 ++ [] = _
 rw [nt_small.1]; rfl
theorem kt1 : jv (qi (-1)) = [45, 49] := by
 rw [qtext_of (i := -1) (d := 1) rfl rfl]
 show [45] ++ cr 1 ++ [] = _
 rw [nt_small.2.1]; rfl
theorem kt3 : jv (qi 3) = [51] := by
 rw [qtext_of (i := 3) (d := 1) rfl rfl]
 show [] ++ cr 3 ++ [] = _
 rw [nt_small.2.2.2.1]; rfl
theorem kc (i : Int) (h1 : -9223372036854775808 ≤ i) (h2 : i ≤ 9223372036854775807) : cB (qi i) 1 := siz_int i h1 h2
open Go Go.RowKit Go.Proofs Lim
theorem newbox8 (w : World) (c0 c1 c2 c3 c4 c5 c6 c7 : Value) : ∃ W, w.alloc (.cells #[c0, c1, c2, c3, c4, c5, c6, c7] 66) = W ∧ Below w.heap.size w W ∧ ck W w.heap.size c0 c1 c2 c3 c4 c5 c6 c7 :=
 ⟨_, rfl, cC w _, ck.new w c0 c1 c2 c3 c4 c5 c6 c7⟩
def ZAt (w0 W : World) (m : Nat) : Prop := w0.heap.size ≤ m ∧ ZBox8 W m
theorem ZAt.keep {w0 W W' : World} {m : Nat} (h : ZAt w0 W m) (hb : Below W.heap.size W W') : ZAt w0 W' m := ⟨h.1, ck.below h.2 hb (Nat.le_refl _)⟩
theorem ZAt.new {w0 W W' : World} (hb0 : Below w0.heap.size w0 W) (hb : Below (W.alloc (.cells #[.bool false, .int .u64 0, .int .u64 0, .pointer none, .bool false, .int .u64 0, .int .u64 0, .pointer none] 66)).heap.size (W.alloc (.cells #[.bool false, .int .u64 0, .int .u64 0, .pointer none, .bool false, .int .u64 0, .int .u64 0, .pointer none] 66)) W') : ZAt w0 W' W.heap.size :=
 ⟨hb0.size, ck.below (ck.new W _ _ _ _ _ _ _ _) hb (Nat.le_refl _)⟩
theorem ZAt.drew {w0 W W' : World} (hb0 : Below w0.heap.size w0 W) (hb : Below (W.alloc (.cells #[.bool false, .int .u64 0, .int .u64 0, .pointer none, .bool false, .int .u64 0, .int .u64 0, .pointer none] 66)).drew.heap.size (W.alloc (.cells #[.bool false, .int .u64 0, .int .u64 0, .pointer none, .bool false, .int .u64 0, .int .u64 0, .pointer none] 66)).drew W') : ZAt w0 W' W.heap.size :=
 ⟨hb0.size, ck.below (W := (W.alloc (.cells #[.bool false, .int .u64 0, .int .u64 0, .pointer none, .bool false, .int .u64 0, .int .u64 0, .pointer none] 66)).drew) (show ck (W.alloc (.cells #[.bool false, .int .u64 0, .int .u64 0, .pointer none, .bool false, .int .u64 0, .int .u64 0, .pointer none] 66)) _ _ _ _ _ _ _ _ _ from ck.new W _ _ _ _ _ _ _ _) hb (Nat.le_refl _)⟩
def KBox (w0 : World) (lo hi : Rat) (s : Value) (wx : World) : Prop := ∃ m t1 ta tb tp t2 tc td tq, s = .pointer (some ⟨m, 0, none⟩) ∧ ck wx m (.bool t1) (u ta) (u tb) (.pointer tp) (.bool t2) (u tc) (u td) (.pointer tq) ∧
 js wx (.agg #[.bool t1, u ta, u tb, .pointer tp]) lo ∧ js wx (.agg #[.bool t2, u tc, u td, .pointer tq]) hi ∧ Below w0.heap.size w0 wx
theorem KBox.stored {w0 W : World} {R : Nat} {lo hi : Rat} {t1 t2 : Bool} {ta tb tc td : Nat} {tp tq : Option Addr} (hR : ZAt w0 W R) (h : IsS W (.agg #[.bool t1, u ta, u tb, .pointer tp, .bool t2, u tc, u td, .pointer tq]) lo hi) (hb : Below w0.heap.size w0 W) :
 KBox w0 lo hi (.pointer (some ⟨R, 0, none⟩)) ((((((((W.setCell ⟨R, 0, none⟩ (.bool t1)).setCell ⟨R, 1, none⟩ (u ta)).setCell ⟨R, 2, none⟩ (u tb)).setCell ⟨R, 3, none⟩ (.pointer tp)).setCell ⟨R, 4, none⟩ (.bool t2)).setCell ⟨R, 5, none⟩ (u tc)).setCell ⟨R, 6, none⟩ (u td)).setCell ⟨R, 7, none⟩ (.pointer tq)) := by
 have ho := only8 W R (.bool t1) (u ta) (u tb) (.pointer tp) (.bool t2) (u tc) (u td) (.pointer tq)
 obtain ⟨_, _, _, _, _, _, _, _, he, h1, h2⟩ := h
 simp only [Value.agg.injEq, Array.mk.injEq, List.cons.injEq, and_true] at he
 obtain ⟨e1, e2, e3, e4, e5, e6, e7, e8⟩ := he
 rw [← e1, ← e2, ← e3, ← e4] at h1
 rw [← e5, ← e6, ← e7, ← e8] at h2
 exact ⟨R, t1, ta, tb, tp, t2, tc, td, tq, rfl, ck.setHigh (ck.setLow hR.2 _ _ _ _) _ _ _ _, h1.other (ck.nbox hR.2) ho, h2.other (ck.nbox hR.2) ho, hb.trans (ho.below hR.1)⟩
theorem KBox.fresh {w0 W : World} {lo hi : Rat} {t1 t2 : Bool} {ta tb tc td : Nat} {tp tq : Option Addr} (h : IsS W (.agg #[.bool t1, u ta, u tb, .pointer tp, .bool t2, u tc, u td, .pointer tq]) lo hi) (hb : Below w0.heap.size w0 W) :
 KBox w0 lo hi (.pointer (some ⟨W.heap.size, 0, none⟩)) (W.alloc (.cells #[.bool t1, u ta, u tb, .pointer tp, .bool t2, u tc, u td, .pointer tq] 66)) := by
 obtain ⟨_, _, _, _, _, _, _, _, he, h1, h2⟩ := h
 simp only [Value.agg.injEq, Array.mk.injEq, List.cons.injEq, and_true] at he
 obtain ⟨e1, e2, e3, e4, e5, e6, e7, e8⟩ := he
 rw [← e1, ← e2, ← e3, ← e4] at h1
 rw [← e5, ← e6, ← e7, ← e8] at h2
 exact ⟨W.heap.size, t1, ta, tb, tp, t2, tc, td, tq, rfl, ck.new W _ _ _ _ _ _ _ _, h1.below (cC W _) (Nat.le_refl _), h2.below (cC W _) (Nat.le_refl _), cf hb (cC W _)⟩
theorem field_low (s1 s2 : Bool) (a b c d : Nat) (p q : Option Addr) (W : World) : (Instr.field 66 (.agg #[.bool s1, u a, u b, .pointer p, .bool s2, u c, u d, .pointer q]) 0).run Tryz.prog W = .ok (.agg #[.bool s1, u a, u b, .pointer p]) W := by kernel_rfl
open Go Go.RowKit Go.Proofs Lim
set_option maxHeartbeats 2000000 in
theorem known_any (w : World) (hG : Gr w) : Calls Tryz.prog 10 #[] w (Val w (.bool true)) := by
 have HG := Lib.hid (fun W (hW : Below w.heap.size w W) => hG.below hW hG.size)
 clear hG
 have HOf := Lib.hid (fun W hG => of_q 6 (-4) (by decide) (by decide) (by decide) (by decide) W hG)
 have HRd := Lib.hid (fun W hG => show Calls Tryz.prog 11 #[.string ⟨#[54, 47, 52]⟩] W (kB W [54, 47, 52]) from read_any [54, 47, 52] W (by decide) hG)
 go_enter Tryz.func10, Tryz.ntmps10
 go_wp2_with fail
 refine (HOf.out _ (HG.out _ (Below.refl _ _))).mono ?_
 rintro e W1 (⟨h0, _⟩ | ⟨_, vx, rfl, hx, hb⟩)
 · exact absurd h0 (by decide)
 have HA1 := Lib.hid hb
 have HX := Lib.hid hx
 obtain ⟨sx, ax, bx, px, rfl⟩ := hx.form
 clear hb hx HOf
 go_wp2_with fail
 obtain ⟨W2, hW, hb, ⟨f0, f1, f2, f3⟩⟩ := box1 W1 (.bool sx) (u ax) (u bx) (.pointer px); rw [← hW]; clear hW
 have HA2 := Lib.hid (cf HA1.out hb)
 have HX := Lib.hid (HX.out.below hb (Nat.le_refl _))
 clear hb HA1
 generalize W1.heap.size = n1 at *
 refine (HRd.out _ (HG.out _ HA2.out)).mono ?_
 rintro e W3 ⟨v0, rfl, h0, hb⟩
 (have hh := cA (b := n1) hb f0 f1 f2 f3; clear f0 f1 f2 f3; obtain ⟨f0, f1, f2, f3⟩ := hh)
 rw [kread] at h0 ⊢
 obtain ⟨s0, a0, b0, p0, rfl⟩ := h0.form
 have HA3 := Lib.hid (cf HA2.out hb)
 have HX := Lib.hid (HX.out.below hb (Nat.le_refl _))
 clear hb HA2 HRd h0
 have l1 : n1 < W3.heap.size := World.block_lt_of_cell? W3 _ f0
 go_wp2_with fail
 have hb := cC W3 (.cells #[.bool s0, u a0, u b0, .pointer p0] 26)
 obtain ⟨W4, hW⟩ : ∃ W, W3.alloc (.cells #[.bool s0, u a0, u b0, .pointer p0] 26) = W := ⟨_, rfl⟩
 rw [hW] at hb ⊢
 clear hW l1
 have HX := Lib.hid (HX.out.below hb (Nat.le_refl _))
 (have hh := cA (b := n1) hb f0 f1 f2 f3; clear f0 f1 f2 f3; obtain ⟨f0, f1, f2, f3⟩ := hh)
 have HA4 := Lib.hid (cf HA3.out hb)
 clear hb HA3
 have kz : cB (qi 6 / qi (-4)) 2 := (kc 6 (by decide) (by decide)).div (kc (-4) (by decide) (by decide)) (by decide)
 have HTx := Lib.hid (fun v W (hv : js W v (qi 6 / qi (-4))) => (kx ▸ text_q v _ 2 W hv kz (by decide) : Calls Tryz.prog 14 #[v] W (kg W [45, 51, 47, 50])))
 have HFl := Lib.hid (fun v W (hv : js W v (qi 6 / qi (-4))) hG => floor_q v _ 2 W hv kz (by decide) (by decide) hG)
 have HCe := Lib.hid (fun v W (hv : js W v (qi 6 / qi (-4))) hG => ceil_q v _ 2 W hv kz (by decide) (by decide) hG)
 have HTf := Lib.hid (fun v W (hv : js W v (((qi 6 / qi (-4)).floor : Int) : Rat)) => (kxf ▸ text_q v _ 1 W hv (siz_int _ (by rw [show (qi 6 / qi (-4)).floor = -2 by kernel_rfl]; decide) (by rw [show (qi 6 / qi (-4)).floor = -2 by kernel_rfl]; decide)) (by decide) : Calls Tryz.prog 14 #[v] W (kg W [45, 50])))
 have HTc := Lib.hid (fun v W (hv : js W v (((qi 6 / qi (-4)).ceil : Int) : Rat)) => (kxc ▸ text_q v _ 1 W hv (siz_int _ (by rw [show (qi 6 / qi (-4)).ceil = -1 by kernel_rfl]; decide) (by rw [show (qi 6 / qi (-4)).ceil = -1 by kernel_rfl]; decide)) (by decide) : Calls Tryz.prog 14 #[v] W (kg W [45, 49])))
 clear kz
 refine (HTx.out _ _ HX.out).mono ?_
 rintro e W5 ⟨rfl, hb⟩
 have HX := Lib.hid (HX.out.below hb (Nat.le_refl _))
 (have hh := cA (b := n1) hb f0 f1 f2 f3; clear f0 f1 f2 f3; obtain ⟨f0, f1, f2, f3⟩ := hh)
 have HA5 := Lib.hid (cf HA4.out hb)
 clear hb HA4
 go_wp2_with fail
 refine (HFl.out _ _ HX.out (HG.out _ HA5.out)).mono ?_
 rintro e W6 ⟨vf, rfl, hvf, hb⟩
 have HX := Lib.hid (HX.out.below hb (Nat.le_refl _))
 (have hh := cA (b := n1) hb f0 f1 f2 f3; clear f0 f1 f2 f3; obtain ⟨f0, f1, f2, f3⟩ := hh)
 have HA6 := Lib.hid (cf HA5.out hb)
 have HVF := Lib.hid hvf
 obtain ⟨_, _, _, _, rfl⟩ := hvf.form
 clear hvf
 clear hb HA5
 go_wp2_with fail
 refine (HTf.out _ _ HVF.out).mono ?_
 rintro e W7 ⟨rfl, hb⟩
 have HX := Lib.hid (HX.out.below hb (Nat.le_refl _))
 (have hh := cA (b := n1) hb f0 f1 f2 f3; clear f0 f1 f2 f3; obtain ⟨f0, f1, f2, f3⟩ := hh)
 have HA7 := Lib.hid (cf HA6.out hb)
 clear hb HA6
 go_wp2_with fail
 refine (HCe.out _ _ HX.out (HG.out _ HA7.out)).mono ?_
 rintro e W8 ⟨vc, rfl, hvc, hb⟩
 have HX := Lib.hid (HX.out.below hb (Nat.le_refl _))
 (have hh := cA (b := n1) hb f0 f1 f2 f3; clear f0 f1 f2 f3; obtain ⟨f0, f1, f2, f3⟩ := hh)
 have HA8 := Lib.hid (cf HA7.out hb)
 have HVC := Lib.hid hvc
 obtain ⟨_, _, _, _, rfl⟩ := hvc.form
 clear hvc
 clear hb HA7
 go_wp2_with fail
 refine (HTc.out _ _ HVC.out).mono ?_
 rintro e W9 ⟨rfl, hb⟩
 have HA9 := Lib.hid (cf HA8.out hb)
 clear hb HA8
 clear f0 f1 f2 f3 HX HVF HVC HTx HFl HCe HTf HTc
 go_wp2_with fail
 have HI := Lib.hid (fun W => int_q (2) (by decide) (by decide) W)
 refine (HI.out _).mono ?_
 rintro e W10 ⟨va, rfl, hva, hb⟩
 have HA10 := Lib.hid (cf HA9.out hb)
 have HVA := Lib.hid hva
 obtain ⟨_, _, _, _, rfl⟩ := hva.form
 clear hva
 clear hb HA9
 clear HI
 go_wp2_with fail
 have HI := Lib.hid (fun W => int_q (-1) (by decide) (by decide) W)
 refine (HI.out _).mono ?_
 rintro e W11 ⟨vb, rfl, hvb, hb⟩
 have HVA := Lib.hid (HVA.out.below hb (Nat.le_refl _))
 have HA11 := Lib.hid (cf HA10.out hb)
 have HVB := Lib.hid hvb
 obtain ⟨_, _, _, _, rfl⟩ := hvb.form
 clear hvb
 clear hb HA10
 clear HI
 go_wp2_with fail
 have HBt := Lib.hid (fun v1 v2 W h1 h2 => between_any v1 v2 (qi (2)) (qi (-1)) 1 W h1 h2 (kc _ (by decide) (by decide)) (kc _ (by decide) (by decide)) (by decide))
 rw [ks.1, ks.2] at HBt
 refine (HBt.out _ _ _ HVA.out HVB.out).mono ?_
 rintro e W12 ⟨vs, rfl, hvs, hb⟩
 have HA12 := Lib.hid (cf HA11.out hb)
 have HVS := Lib.hid hvs
 clear hb HA11
 clear HBt HVA HVB
 obtain ⟨s1, sa, sb, sp, s2, sc, sd, sq, rfl, hl, hh⟩ := hvs
 go_wp2_with fail
 obtain ⟨W13, hW, hb, hX⟩ := newbox8 W12 (.bool s1) (u sa) (u sb) (.pointer sp) (.bool s2) (u sc) (u sd) (.pointer sq)
 rw [hW]
 clear hW
 have HS8 := Lib.hid hX
 have HLs := Lib.hid (hl.below hb (Nat.le_refl _))
 have HHs := Lib.hid (hh.below hb (Nat.le_refl _))
 have HA13 := Lib.hid (cf HA12.out hb)
 clear hX hl hh HVS
 clear hb HA12
 generalize W12.heap.size = n5 at *
 have HI3 := Lib.hid (fun W => (int_q 3 (by decide) (by decide) W : Calls Tryz.prog 15 #[.int .i64 3] W (jS W (qi 3))))
 have HI4 := Lib.hid (fun W => (int_q 4 (by decide) (by decide) W : Calls Tryz.prog 15 #[.int .i64 4] W (jS W (qi 4))))
 have HBt := Lib.hid (fun v1 v2 W h1 h2 => between_any v1 v2 (qi 3) (qi 4) 1 W h1 h2 (kc _ (by decide) (by decide)) (kc _ (by decide) (by decide)) (by decide))
 rw [kr.1, kr.2] at HBt
 have HTm := Lib.hid (fun v1 v2 W h1 h2 hG => sptimes_any v1 v2 (qi (-1)) (qi 2) (qi 3) (qi 4) 1 W h1 h2 (kc _ (by decide) (by decide)) (kc _ (by decide) (by decide)) (kc _ (by decide) (by decide)) (kc _ (by decide) (by decide)) (by decide) hG)
 rw [kt.1, kt.2] at HTm
 have HsS := Lib.hid (show IsS W13 (.agg #[.bool s1, u sa, u sb, .pointer sp, .bool s2, u sc, u sd, .pointer sq]) (qi (-1)) (qi 2) from ⟨_, _, _, _, _, _, _, _, rfl, HLs.out, HHs.out⟩)
 go_upto_region 6 with fail
 go_cut [6] from 42 to 46 (fun s6 wx => KBox W13 (qi (-4)) (qi 8) s6 wx)
 case first =>
  have hb0 := Below.refl W13.heap.size W13
  obtain ⟨c0, c1, c2, c3, c4, c5, c6, c7⟩ := HS8.out.cells
  have lt13 : n5 < W13.heap.size := ck.lt HS8.out
  have na13 := Nat.ne_of_lt lt13
  have nb13 := na13.symm
  go_region_held3 (fun w' => w'.cell? ⟨n5, 0, none⟩ = some (.bool s1) ∧ w'.cell? ⟨n5, 1, none⟩ = some (u sa) ∧ w'.cell? ⟨n5, 2, none⟩ = some (u sb) ∧ w'.cell? ⟨n5, 3, none⟩ = some (.pointer sp) ∧ w'.cell? ⟨n5, 4, none⟩ = some (.bool s2) ∧ w'.cell? ⟨n5, 5, none⟩ = some (u sc) ∧ w'.cell? ⟨n5, 6, none⟩ = some (u sd) ∧ w'.cell? ⟨n5, 7, none⟩ = some (.pointer sq)) (go_keep) (first | ((with_reducible refine (HI3.out _).mono ?_); rintro e W14 ⟨va, rfl, hva, hb⟩; obtain ⟨_, _, _, _, rfl⟩ := hva.form; ((first | have hz := ZAt.keep hz hb | have hz := ZAt.new hb0 hb | have hz := ZAt.drew hb0 hb | skip); have hb0 : Below W13.heap.size W13 W14 := (by first | exact cf hb0 hb | exact cf (cf hb0 (cC _ _)) hb | exact ja hb0 hb | exact ja (cf hb0 (cC _ _)) hb); clear c0 c1 c2 c3 c4 c5 c6 c7; have hX := ck.below HS8.out hb0 (Nat.le_refl _); (obtain ⟨c0, c1, c2, c3, c4, c5, c6, c7⟩ := hX.cells); have lt14 : n5 < W14.heap.size := ck.lt hX; have na14 := Nat.ne_of_lt lt14; have nb14 := na14.symm; clear hX); clear hb) | ((with_reducible refine (HI4.out _).mono ?_); rintro e W15 ⟨vb, rfl, hvb, hb⟩; obtain ⟨_, _, _, _, rfl⟩ := hvb.form; (first | replace hva := hva.below hb (Nat.le_refl _) | replace hva := (hva.below (cC _ _) (Nat.le_refl _)).below hb (Nat.le_refl _)); ((first | have hz := ZAt.keep hz hb | have hz := ZAt.new hb0 hb | have hz := ZAt.drew hb0 hb | skip); have hb0 : Below W13.heap.size W13 W15 := (by first | exact cf hb0 hb | exact cf (cf hb0 (cC _ _)) hb | exact ja hb0 hb | exact ja (cf hb0 (cC _ _)) hb); clear c0 c1 c2 c3 c4 c5 c6 c7; have hX := ck.below HS8.out hb0 (Nat.le_refl _); (obtain ⟨c0, c1, c2, c3, c4, c5, c6, c7⟩ := hX.cells); have lt15 : n5 < W15.heap.size := ck.lt hX; have na15 := Nat.ne_of_lt lt15; have nb15 := na15.symm; clear hX); clear hb) | ((with_reducible refine (HBt.out _ _ _ ?_ ?_).mono ?_); (first | exact hva | exact hva.below (cC _ _) (Nat.le_refl _)); (first | exact hvb | exact hvb.below (cC _ _) (Nat.le_refl _)); rintro e W16 ⟨vt, rfl, hvt, hb⟩; have hvt' := hvt; obtain ⟨_, _, _, _, _, _, _, _, rfl, -, -⟩ := hvt'; ((first | have hz := ZAt.keep hz hb | have hz := ZAt.new hb0 hb | have hz := ZAt.drew hb0 hb | skip); have hb0 : Below W13.heap.size W13 W16 := (by first | exact cf hb0 hb | exact cf (cf hb0 (cC _ _)) hb | exact ja hb0 hb | exact ja (cf hb0 (cC _ _)) hb); clear c0 c1 c2 c3 c4 c5 c6 c7; have hX := ck.below HS8.out hb0 (Nat.le_refl _); (obtain ⟨c0, c1, c2, c3, c4, c5, c6, c7⟩ := hX.cells); have lt16 : n5 < W16.heap.size := ck.lt hX; have na16 := Nat.ne_of_lt lt16; have nb16 := na16.symm; clear hX); clear hb) | ((with_reducible refine (HTm.out _ _ _ ?_ ?_ ?_).mono ?_); (first | exact HsS.out.below hb0 (Nat.le_refl _) | exact HsS.out.below (cf hb0 (cC _ _)) (Nat.le_refl _)); (first | exact hvt | exact hvt.below (cC _ _) (Nat.le_refl _)); (first | exact HG.out _ (cf HA13.out hb0) | exact HG.out _ (cf HA13.out (cf hb0 (cC _ _)))); rintro e W17 ⟨v, rfl, hv, hb⟩; have hv' := hv; obtain ⟨t1, ta, tb, tp, t2, tc, td, tq, rfl, -, -⟩ := hv'; ((first | have hz := ZAt.keep hz hb | have hz := ZAt.new hb0 hb | have hz := ZAt.drew hb0 hb | skip); have hb0 : Below W13.heap.size W13 W17 := (by first | exact cf hb0 hb | exact cf (cf hb0 (cC _ _)) hb | exact ja hb0 hb | exact ja (cf hb0 (cC _ _)) hb); clear c0 c1 c2 c3 c4 c5 c6 c7; have hX := ck.below HS8.out hb0 (Nat.le_refl _); (obtain ⟨c0, c1, c2, c3, c4, c5, c6, c7⟩ := hX.cells); have lt17 : n5 < W17.heap.size := ck.lt hX; have na17 := Nat.ne_of_lt lt17; have nb17 := na17.symm; clear hX); clear hb; (first | (have hz9 := hz.2; (obtain ⟨z0, z1, z2, z3, z4, z5, z6, z7⟩ := ck.cells hz9; have zf0 := ck.frozen hz9 0; have zf1 := ck.frozen hz9 1; have zf2 := ck.frozen hz9 2; have zf3 := ck.frozen hz9 3; have zf4 := ck.frozen hz9 4; have zf5 := ck.frozen hz9 5; have zf6 := ck.frozen hz9 6; have zf7 := ck.frozen hz9 7); have HZz := Lib.hid hz; clear hz hz9) | skip); have HVv := Lib.hid hv; have HBb := Lib.hid hb0; clear hv hb0 hva hvb hvt))
  all_goals (clear c0 c1 c2 c3 c4 c5 c6 c7; rename_i hS; clear hS; go_wp2_with fail; go_meet; first | (have hz := HZz.out; exact KBox.stored hz HVv.out HBb.out) | exact KBox.fresh HVv.out HBb.out)
 case rest =>
  obtain ⟨n6, t1, ta, tb, tp, t2, tc, td, tq, rfl, hX, hl, hh, hb⟩ := hcut
  obtain ⟨W17, hW17⟩ : ∃ W, W = wc := ⟨_, rfl⟩
  subst hW17
  have HT8 := Lib.hid hX
  have HLt := Lib.hid hl
  have HHt := Lib.hid hh
  have HS8 := Lib.hid (ck.below HS8.out hb (Nat.le_refl _))
  have HLs := Lib.hid (HLs.out.below hb (Nat.le_refl _))
  have HHs := Lib.hid (HHs.out.below hb (Nat.le_refl _))
  have HA17 := Lib.hid (cf HA13.out hb)
  clear hX hl hh HI3 HI4 HBt HTm HsS
  clear hb HA13
  go_wp2_with fail
  have HI := Lib.hid (fun W => int_q (1) (by decide) (by decide) W)
  refine (HI.out _).mono ?_
  rintro e W18 ⟨va, rfl, hva, hb⟩
  have HLs := Lib.hid (HLs.out.below hb (Nat.le_refl _))
  have HHs := Lib.hid (HHs.out.below hb (Nat.le_refl _))
  have HLt := Lib.hid (HLt.out.below hb (Nat.le_refl _))
  have HHt := Lib.hid (HHt.out.below hb (Nat.le_refl _))
  have HS8 := Lib.hid (ck.below HS8.out hb (Nat.le_refl _))
  have HT8 := Lib.hid (ck.below HT8.out hb (Nat.le_refl _))
  have HA18 := Lib.hid (cf HA17.out hb)
  have HVA := Lib.hid hva
  obtain ⟨_, _, _, _, rfl⟩ := hva.form
  clear hva
  clear hb HA17
  clear HI
  go_wp2_with fail
  have HI := Lib.hid (fun W => int_q (-2) (by decide) (by decide) W)
  refine (HI.out _).mono ?_
  rintro e W19 ⟨vb, rfl, hvb, hb⟩
  have HLs := Lib.hid (HLs.out.below hb (Nat.le_refl _))
  have HHs := Lib.hid (HHs.out.below hb (Nat.le_refl _))
  have HLt := Lib.hid (HLt.out.below hb (Nat.le_refl _))
  have HHt := Lib.hid (HHt.out.below hb (Nat.le_refl _))
  have HVA := Lib.hid (HVA.out.below hb (Nat.le_refl _))
  have HS8 := Lib.hid (ck.below HS8.out hb (Nat.le_refl _))
  have HT8 := Lib.hid (ck.below HT8.out hb (Nat.le_refl _))
  have HA19 := Lib.hid (cf HA18.out hb)
  have HVB := Lib.hid hvb
  obtain ⟨_, _, _, _, rfl⟩ := hvb.form
  clear hvb
  clear hb HA18
  clear HI
  go_wp2_with fail
  have HI := Lib.hid (fun W => int_q (0) (by decide) (by decide) W)
  refine (HI.out _).mono ?_
  rintro e W20 ⟨vc, rfl, hvc, hb⟩
  have HLs := Lib.hid (HLs.out.below hb (Nat.le_refl _))
  have HHs := Lib.hid (HHs.out.below hb (Nat.le_refl _))
  have HLt := Lib.hid (HLt.out.below hb (Nat.le_refl _))
  have HHt := Lib.hid (HHt.out.below hb (Nat.le_refl _))
  have HVA := Lib.hid (HVA.out.below hb (Nat.le_refl _))
  have HVB := Lib.hid (HVB.out.below hb (Nat.le_refl _))
  have HS8 := Lib.hid (ck.below HS8.out hb (Nat.le_refl _))
  have HT8 := Lib.hid (ck.below HT8.out hb (Nat.le_refl _))
  have HA20 := Lib.hid (cf HA19.out hb)
  have HVC := Lib.hid hvc
  obtain ⟨_, _, _, _, rfl⟩ := hvc.form
  clear hvc
  clear hb HA19
  clear HI
  go_wp2_with fail
  have HI := Lib.hid (fun W => int_q (0) (by decide) (by decide) W)
  refine (HI.out _).mono ?_
  rintro e W21 ⟨vd, rfl, hvd, hb⟩
  have HLs := Lib.hid (HLs.out.below hb (Nat.le_refl _))
  have HHs := Lib.hid (HHs.out.below hb (Nat.le_refl _))
  have HLt := Lib.hid (HLt.out.below hb (Nat.le_refl _))
  have HHt := Lib.hid (HHt.out.below hb (Nat.le_refl _))
  have HVA := Lib.hid (HVA.out.below hb (Nat.le_refl _))
  have HVB := Lib.hid (HVB.out.below hb (Nat.le_refl _))
  have HVC := Lib.hid (HVC.out.below hb (Nat.le_refl _))
  have HS8 := Lib.hid (ck.below HS8.out hb (Nat.le_refl _))
  have HT8 := Lib.hid (ck.below HT8.out hb (Nat.le_refl _))
  have HA21 := Lib.hid (cf HA20.out hb)
  have HVD := Lib.hid hvd
  obtain ⟨_, _, _, _, rfl⟩ := hvd.form
  clear hvd
  clear hb HA20
  clear HI
  go_wp2_with fail
  have HI := Lib.hid (fun W => int_q (3) (by decide) (by decide) W)
  refine (HI.out _).mono ?_
  rintro e W22 ⟨ve, rfl, hve, hb⟩
  have HLs := Lib.hid (HLs.out.below hb (Nat.le_refl _))
  have HHs := Lib.hid (HHs.out.below hb (Nat.le_refl _))
  have HLt := Lib.hid (HLt.out.below hb (Nat.le_refl _))
  have HHt := Lib.hid (HHt.out.below hb (Nat.le_refl _))
  have HVA := Lib.hid (HVA.out.below hb (Nat.le_refl _))
  have HVB := Lib.hid (HVB.out.below hb (Nat.le_refl _))
  have HVC := Lib.hid (HVC.out.below hb (Nat.le_refl _))
  have HVD := Lib.hid (HVD.out.below hb (Nat.le_refl _))
  have HS8 := Lib.hid (ck.below HS8.out hb (Nat.le_refl _))
  have HT8 := Lib.hid (ck.below HT8.out hb (Nat.le_refl _))
  have HA22 := Lib.hid (cf HA21.out hb)
  have HVE := Lib.hid hve
  obtain ⟨_, _, _, _, rfl⟩ := hve.form
  clear hve
  clear hb HA21
  clear HI
  go_wp2_with fail
  have HBt := Lib.hid (fun v1 v2 W h1 h2 => between_any v1 v2 (qi (0)) (qi (3)) 1 W h1 h2 (kc _ (by decide) (by decide)) (kc _ (by decide) (by decide)) (by decide))
  rw [kv.1, kv.2] at HBt
  refine (HBt.out _ _ _ HVD.out HVE.out).mono ?_
  rintro e W23 ⟨vr, rfl, hvr, hb⟩
  have HLs := Lib.hid (HLs.out.below hb (Nat.le_refl _))
  have HHs := Lib.hid (HHs.out.below hb (Nat.le_refl _))
  have HLt := Lib.hid (HLt.out.below hb (Nat.le_refl _))
  have HHt := Lib.hid (HHt.out.below hb (Nat.le_refl _))
  have HVA := Lib.hid (HVA.out.below hb (Nat.le_refl _))
  have HVB := Lib.hid (HVB.out.below hb (Nat.le_refl _))
  have HVC := Lib.hid (HVC.out.below hb (Nat.le_refl _))
  have HS8 := Lib.hid (ck.below HS8.out hb (Nat.le_refl _))
  have HT8 := Lib.hid (ck.below HT8.out hb (Nat.le_refl _))
  have HA23 := Lib.hid (cf HA22.out hb)
  have HVR := Lib.hid hvr
  clear hb HA22
  clear HBt HVD HVE
  have HQu := Lib.hid (fun v1 v2 v3 v4 W h1 h2 h3 h4 hG => quadratic_any v1 v2 v3 v4 (qi 1) (qi (-2)) (qi 0) (qi 0) (qi 3) 1 W h1 h2 h3 h4 (kc _ (by decide) (by decide)) (kc _ (by decide) (by decide)) (kc _ (by decide) (by decide)) (kc _ (by decide) (by decide)) (kc _ (by decide) (by decide)) (by decide) hG)
  rw [ku.1, ku.2] at HQu
  obtain ⟨r1, ra, rb, rp, r2, rc, rd, rq, rfl, hl, hh⟩ := hvr
  have hvr := HVR.out
  go_wp2_with fail
  refine (HQu.out _ _ _ _ _ HVA.out HVB.out HVC.out HVR.out (HG.out _ HA23.out)).mono ?_
  rintro e W24 ⟨vq, rfl, hvq, hb⟩
  have HLs := Lib.hid (HLs.out.below hb (Nat.le_refl _))
  have HHs := Lib.hid (HHs.out.below hb (Nat.le_refl _))
  have HLt := Lib.hid (HLt.out.below hb (Nat.le_refl _))
  have HHt := Lib.hid (HHt.out.below hb (Nat.le_refl _))
  have HS8 := Lib.hid (ck.below HS8.out hb (Nat.le_refl _))
  have HT8 := Lib.hid (ck.below HT8.out hb (Nat.le_refl _))
  have HA24 := Lib.hid (cf HA23.out hb)
  have HVQ := Lib.hid hvq
  clear hb HA23
  clear HQu HVA HVB HVC HVR hl hh hvr
  obtain ⟨q1, qa, qb, qp, q2, qc, qd, qq, rfl, hl, hh⟩ := hvq
  have ltHS8 := ck.lt HS8.out
  have ltHT8 := ck.lt HT8.out
  go_upto_region 8 with fail
  obtain ⟨W25, hW, hb, hX⟩ := newbox8 W24 (.bool q1) (u qa) (u qb) (.pointer qp) (.bool q2) (u qc) (u qd) (.pointer qq)
  rw [hW]
  clear hW
  clear ltHS8
  clear ltHT8
  have HQ8 := Lib.hid hX
  have HLq := Lib.hid (hl.below hb (Nat.le_refl _))
  have HHq := Lib.hid (hh.below hb (Nat.le_refl _))
  have HLs := Lib.hid (HLs.out.below hb (Nat.le_refl _))
  have HHs := Lib.hid (HHs.out.below hb (Nat.le_refl _))
  have HLt := Lib.hid (HLt.out.below hb (Nat.le_refl _))
  have HHt := Lib.hid (HHt.out.below hb (Nat.le_refl _))
  have HS8 := Lib.hid (ck.below HS8.out hb (Nat.le_refl _))
  have HT8 := Lib.hid (ck.below HT8.out hb (Nat.le_refl _))
  have HA25 := Lib.hid (cf HA24.out hb)
  clear hX hl hh HVQ
  clear hb HA24
  generalize W24.heap.size = n7 at *
  (obtain ⟨c0, c1, c2, c3, c4, c5, c6, c7⟩ := HT8.out.cells)
  go_wp2_with fail
  clear c0 c1 c2 c3 c4 c5 c6 c7
  have HTx := Lib.hid (fun v W (hv : js W v (qi (-4))) => (kt4 ▸ text_q v _ 1 W hv (kc _ (by decide) (by decide)) (by decide) : Calls Tryz.prog 14 #[v] W (kg W _)))
  refine (HTx.out _ _ HLt.out).mono ?_
  rintro e W26 ⟨rfl, hb⟩
  have HLs := Lib.hid (HLs.out.below hb (Nat.le_refl _))
  have HHs := Lib.hid (HHs.out.below hb (Nat.le_refl _))
  have HLt := Lib.hid (HLt.out.below hb (Nat.le_refl _))
  have HHt := Lib.hid (HHt.out.below hb (Nat.le_refl _))
  have HLq := Lib.hid (HLq.out.below hb (Nat.le_refl _))
  have HHq := Lib.hid (HHq.out.below hb (Nat.le_refl _))
  have HS8 := Lib.hid (ck.below HS8.out hb (Nat.le_refl _))
  have HT8 := Lib.hid (ck.below HT8.out hb (Nat.le_refl _))
  have HQ8 := Lib.hid (ck.below HQ8.out hb (Nat.le_refl _))
  have HA26 := Lib.hid (cf HA25.out hb)
  clear hb HA25
  clear HTx
  (obtain ⟨c0, c1, c2, c3, c4, c5, c6, c7⟩ := HT8.out.cells)
  go_wp2_with fail
  clear c0 c1 c2 c3 c4 c5 c6 c7
  have HTx := Lib.hid (fun v W (hv : js W v (qi (8))) => (kt8 ▸ text_q v _ 1 W hv (kc _ (by decide) (by decide)) (by decide) : Calls Tryz.prog 14 #[v] W (kg W _)))
  refine (HTx.out _ _ HHt.out).mono ?_
  rintro e W27 ⟨rfl, hb⟩
  have HLs := Lib.hid (HLs.out.below hb (Nat.le_refl _))
  have HHs := Lib.hid (HHs.out.below hb (Nat.le_refl _))
  have HLt := Lib.hid (HLt.out.below hb (Nat.le_refl _))
  have HHt := Lib.hid (HHt.out.below hb (Nat.le_refl _))
  have HLq := Lib.hid (HLq.out.below hb (Nat.le_refl _))
  have HHq := Lib.hid (HHq.out.below hb (Nat.le_refl _))
  have HS8 := Lib.hid (ck.below HS8.out hb (Nat.le_refl _))
  have HT8 := Lib.hid (ck.below HT8.out hb (Nat.le_refl _))
  have HQ8 := Lib.hid (ck.below HQ8.out hb (Nat.le_refl _))
  have HA27 := Lib.hid (cf HA26.out hb)
  clear hb HA26
  clear HTx
  (obtain ⟨c0, c1, c2, c3, c4, c5, c6, c7⟩ := HS8.out.cells)
  go_wp2_with fail
  clear c0 c1 c2 c3 c4 c5 c6 c7
  have HSq := Lib.hid (fun v W h hG => square_any v (qi (-1)) (qi 2) 1 W h (kc _ (by decide) (by decide)) (kc _ (by decide) (by decide)) (by decide) hG)
  rw [kq] at HSq
  have HsS := Lib.hid (show IsS W27 (.agg #[.bool s1, u sa, u sb, .pointer sp, .bool s2, u sc, u sd, .pointer sq]) (qi (-1)) (qi 2) from ⟨_, _, _, _, _, _, _, _, rfl, HLs.out, HHs.out⟩)
  refine (HSq.out _ _ HsS.out (HG.out _ HA27.out)).mono ?_
  rintro e W28 ⟨vy, rfl, hvy, hb⟩
  have HLq := Lib.hid (HLq.out.below hb (Nat.le_refl _))
  have HHq := Lib.hid (HHq.out.below hb (Nat.le_refl _))
  have HQ8 := Lib.hid (ck.below HQ8.out hb (Nat.le_refl _))
  have HA28 := Lib.hid (cf HA27.out hb)
  have HVY := Lib.hid hvy
  clear hb HA27
  obtain ⟨y1, ya, yb, yp, y2, yc, yd, yq, rfl, hl, hh⟩ := hvy
  have HLy := Lib.hid hl
  clear hl hh HVY HSq HsS
  have hfd := field_low y1 y2 ya yb yc yd yp yq W28
  go_wp2_with fail
  clear hfd
  have HTx := Lib.hid (fun v W (hv : js W v (qi (0))) => (kt0 ▸ text_q v _ 1 W hv (kc _ (by decide) (by decide)) (by decide) : Calls Tryz.prog 14 #[v] W (kg W _)))
  refine (HTx.out _ _ HLy.out).mono ?_
  rintro e W29 ⟨rfl, hb⟩
  have HLq := Lib.hid (HLq.out.below hb (Nat.le_refl _))
  have HHq := Lib.hid (HHq.out.below hb (Nat.le_refl _))
  have HQ8 := Lib.hid (ck.below HQ8.out hb (Nat.le_refl _))
  have HA29 := Lib.hid (cf HA28.out hb)
  clear hb HA28
  clear HTx
  (obtain ⟨c0, c1, c2, c3, c4, c5, c6, c7⟩ := HQ8.out.cells)
  go_wp2_with fail
  clear c0 c1 c2 c3 c4 c5 c6 c7
  have HTx := Lib.hid (fun v W (hv : js W v (qi (-1))) => (kt1 ▸ text_q v _ 1 W hv (kc _ (by decide) (by decide)) (by decide) : Calls Tryz.prog 14 #[v] W (kg W _)))
  refine (HTx.out _ _ HLq.out).mono ?_
  rintro e W30 ⟨rfl, hb⟩
  have HLq := Lib.hid (HLq.out.below hb (Nat.le_refl _))
  have HHq := Lib.hid (HHq.out.below hb (Nat.le_refl _))
  have HQ8 := Lib.hid (ck.below HQ8.out hb (Nat.le_refl _))
  have HA30 := Lib.hid (cf HA29.out hb)
  clear hb HA29
  clear HTx
  (obtain ⟨c0, c1, c2, c3, c4, c5, c6, c7⟩ := HQ8.out.cells)
  go_wp2_with fail
  clear c0 c1 c2 c3 c4 c5 c6 c7
  have HTx := Lib.hid (fun v W (hv : js W v (qi (3))) => (kt3 ▸ text_q v _ 1 W hv (kc _ (by decide) (by decide)) (by decide) : Calls Tryz.prog 14 #[v] W (kg W _)))
  refine (HTx.out _ _ HHq.out).mono ?_
  rintro e W31 ⟨rfl, hb⟩
  have HLq := Lib.hid (HLq.out.below hb (Nat.le_refl _))
  have HHq := Lib.hid (HHq.out.below hb (Nat.le_refl _))
  have HQ8 := Lib.hid (ck.below HQ8.out hb (Nat.le_refl _))
  have HA31 := Lib.hid (cf HA30.out hb)
  clear hb HA30
  clear HTx
  go_wp2_with fail
  exact bodyPost_ret (v := .bool true) (by simp [results, Tryz.results10, go_sem]) rfl ⟨rfl, HA31.out⟩
open Go Go.RowKit Go.Proofs Lim
open Go Go.RowKit Go.Proofs Lim
open Go Go.RowKit Go.Proofs Lim
open Go Go.RowKit Go.Proofs Lim
open Go Go.RowKit Go.Proofs Lim
structure TwoIn (w0 V : World) (r1 r2 : Rat) (s1 s2 : Bool) (a1 b1 a2 b2 : Nat) (p1 p2 : Option Addr) : Prop where
 q1 : js V (.agg #[.bool s1, u a1, u b1, .pointer p1]) r1
 q2 : js V (.agg #[.bool s2, u a2, u b2, .pointer p2]) r2
 hb : Below w0.heap.size w0 V
section
variable {w0 V : World} {r1 r2 : Rat} {s1 s2 z1 z2 : Bool} {a1 b1 a2 b2 : Nat} {p1 p2 : Option Addr} {y1 y2 y3 y4 y5 y6 : Value}
end
open Go Go.RowKit Go.Proofs Lim
open Go Go.RowKit Go.Proofs Lim
theorem cn.other' {W W' : World} {R : Nat} {cs : Array Value} {t : TypeId} {v : Value} {n : Nat} (hb : W.heap[R]? = some (.cells cs t (0, 0))) (ht : t ≠ 23) (h : cn W v n) (ho : jb R W W') : cn W' v n := by
 obtain ⟨xs, ⟨⟨ao, c, rfl, h1, h2, hr⟩, ok, typ⟩, htr, hv⟩ := h
 refine ⟨xs, ⟨⟨ao, c, rfl, h1, h2, fun hn => ?_⟩, ok, typ.other hb ht ho⟩, htr, hv⟩
 obtain ⟨b, off, rfl, row⟩ := hr hn
 refine ⟨b, off, rfl, ho.row ?_ row⟩
 intro e
 obtain ⟨cs', fr', hc⟩ := typ ⟨b, off, none⟩ _ _ rfl hn
 rw [show (⟨b, off, none⟩ : Addr).block = R from e, hb] at hc
 injection hc with hc
 injection hc with _ hc
 exact ht hc
theorem js.other' {W W' : World} {R : Nat} {cs : Array Value} {t : TypeId} {v : Value} {r : Rat} (hb : W.heap[R]? = some (.cells cs t (0, 0))) (ht : t ≠ 23) (hz : ∀ x, cs[0]? = some x → Sym.noSl x = true) (h : js W v r) (ho : jb R W W') : js W' v r := by
 have h : Num W v _ _ _ := h
 show Num W' v _ _ _
 cases h with
 | low l hv hd hn hdB => exact .low l hv hd hn hdB
 | wide b x y hv hx hy h1 h2 hB h0 hd =>
  have hbR : b ≠ R := by
   intro e
   subst e
   obtain ⟨_, _, _, rfl, _⟩ := h1.form
   rw [World.cell?, hb] at hx
   have := hz _ (by simpa using hx)
   simp [Sym.noSl] at this
  exact .wide b x y hv ((ho.cell (p := ⟨b, 0, none⟩) hbR).trans hx) ((ho.cell (p := ⟨b, 1, none⟩) hbR).trans hy) (h1.other' hb ht ho) (h2.other' hb ht ho) hB h0 hd
namespace Sym
def clQ (r : Rat) (k : Nat) : Cl := ⟨[], 4, true, fun w f => js w (.agg #[f 0, f 1, f 2, f 3]) r ∧ cB r k⟩
theorem clQ_ok {okT : List Nat} {B : Nat} (ht : ∀ t ∈ okT, t ≠ 23) (r : Rat) (k : Nat) : (clQ r k).Ok okT B := by
 refine ⟨fun w w' f hb h => ⟨h.1.below hb (Nat.le_refl _), h.2⟩, fun w w' R f cs t _ _ ho hm hz _ hb h => ⟨h.1.other' ho (ht t hm) hz hb, h.2⟩, ?_, ?_⟩
 · intro w f _ h
   obtain ⟨neg, a, b, p, hv⟩ := h.1.form
   injection hv with hv
   have : f 0 = .bool neg := by have := congrArg (fun x => x[0]?) hv; simpa using this
   rw [this]; rfl
 · intro w f j h hj
   obtain ⟨neg, a, b, p, hv⟩ := h.1.form
   injection hv with hv
   have h0 : f 0 = .bool neg := by have := congrArg (fun x => x[0]?) hv; simpa using this
   have h1 : f 1 = u a := by have := congrArg (fun x => x[1]?) hv; simpa using this
   have h2 : f 2 = u b := by have := congrArg (fun x => x[2]?) hv; simpa using this
   have h3 : f 3 = .pointer p := by have := congrArg (fun x => x[3]?) hv; simpa using this
   have hj : j < 4 := hj
   match j, hj with
   | 0, _ => rw [h0]; rfl
   | 1, _ => rw [h1]; rfl
   | 2, _ => rw [h2]; rfl
   | 3, _ => rw [h3]; rfl
def qp (c : Nat) : jQ := .agg [.cls c 4]
def sp (c d : Nat) : jQ := .agg [.cls c 4, .cls d 4]
section
variable {csz : List Nat} {numc : List Bool} {okT : List Nat} {nt : Nat} {cl : List Cl} {w0 : World} {w : World} {v : Value} {p1 p2 p3 p4 : jQ} {c d c1 c2 c3 c4 c5 c6 : Nat} {r s t r1 r2 r3 r4 : Rat} {k k1 k2 k3 k4 k5 k6 : Nat}
theorem cells4 (f : Nat → Value) : (List.range 4).map f = [f 0, f 1, f 2, f 3] := rfl
theorem qp_is (h : cl[c]? = some (clQ r k)) : (qp c).is (mkC csz numc okT nt cl w0) w v ↔ js w v r ∧ cB r k := by
 constructor
 · rintro ⟨vs, ⟨xs, ys, rfl, ⟨f, hE, rfl⟩, hy⟩, rfl⟩
   rw [show ys = [] from hy]
   simp only [mkC, h] at hE
   exact hE
 · rintro ⟨h1, h2⟩
   obtain ⟨neg, a, b, p, rfl⟩ := h1.form
   refine ⟨[.bool neg, u a, u b, .pointer p], ⟨_, [], (List.append_nil _).symm, ⟨fun j => [Value.bool neg, u a, u b, .pointer p].getD j undef, ?_, rfl⟩, rfl⟩, rfl⟩
   simp only [mkC, h]
   exact ⟨h1, h2⟩
theorem sp_is (h : cl[c]? = some (clQ r k)) (h' : cl[d]? = some (clQ s k1)) : (sp c d).is (mkC csz numc okT nt cl w0) w v ↔ IsS w v r s ∧ cB r k ∧ cB s k1 := by
 constructor
 · rintro ⟨vs, ⟨xs, ys, rfl, ⟨f, hE, rfl⟩, ⟨xs', ys', rfl, ⟨f', hE', rfl⟩, hy⟩⟩, rfl⟩
   rw [show ys' = [] from hy]
   simp only [mkC, h] at hE
   simp only [mkC, h'] at hE'
   obtain ⟨s1, a1, b1, p1, e1⟩ := hE.1.form
   obtain ⟨s2, a2, b2, p2, e2⟩ := hE'.1.form
   refine ⟨⟨s1, a1, b1, p1, s2, a2, b2, p2, ?_, e1 ▸ hE.1, e2 ▸ hE'.1⟩, hE.2, hE'.2⟩
   injection e1 with e1
   injection e2 with e2
   have g0 : f 0 = .bool s1 := by have := congrArg (fun x => x[0]?) e1; simpa using this
   have g1 : f 1 = u a1 := by have := congrArg (fun x => x[1]?) e1; simpa using this
   have g2 : f 2 = u b1 := by have := congrArg (fun x => x[2]?) e1; simpa using this
   have g3 : f 3 = .pointer p1 := by have := congrArg (fun x => x[3]?) e1; simpa using this
   have i0 : f' 0 = .bool s2 := by have := congrArg (fun x => x[0]?) e2; simpa using this
   have i1 : f' 1 = u a2 := by have := congrArg (fun x => x[1]?) e2; simpa using this
   have i2 : f' 2 = u b2 := by have := congrArg (fun x => x[2]?) e2; simpa using this
   have i3 : f' 3 = .pointer p2 := by have := congrArg (fun x => x[3]?) e2; simpa using this
   simp [cells4, g0, g1, g2, g3, i0, i1, i2, i3]
 · rintro ⟨⟨s1, a1, b1, p1, s2, a2, b2, p2, rfl, h1, h2⟩, z1, z2⟩
   refine ⟨[.bool s1, u a1, u b1, .pointer p1, .bool s2, u a2, u b2, .pointer p2], ⟨[.bool s1, u a1, u b1, .pointer p1], [.bool s2, u a2, u b2, .pointer p2], rfl, ⟨fun j => [Value.bool s1, u a1, u b1, .pointer p1].getD j undef, ?_, rfl⟩, ⟨_, [], (List.append_nil _).symm, ⟨fun j => [Value.bool s2, u a2, u b2, .pointer p2].getD j undef, ?_, rfl⟩, rfl⟩⟩, rfl⟩
   · simp only [mkC, h]; exact ⟨h1, z1⟩
   · simp only [mkC, h']; exact ⟨h2, z2⟩
def PQ (csz : List Nat) (numc : List Bool) (okT : List Nat) (nt : Nat) (cl : List Cl) (w0 : World) (p : jQ) (r : Rat) (k : Nat) : Prop := ∀ w v, p.is (mkC csz numc okT nt cl w0) w v → js w v r ∧ cB r k
def PS (csz : List Nat) (numc : List Bool) (okT : List Nat) (nt : Nat) (cl : List Cl) (w0 : World) (p : jQ) (r : Rat) (k : Nat) (s : Rat) (j : Nat) : Prop := ∀ w v, p.is (mkC csz numc okT nt cl w0) w v → IsS w v r s ∧ cB r k ∧ cB s j
theorem pq (h : cl[c]? = some (clQ r k)) : PQ csz numc okT nt cl w0 (qp c) r k := fun _ _ h1 => (qp_is h).1 h1
theorem ps (h : cl[c]? = some (clQ r k)) (h' : cl[d]? = some (clQ s k1)) : PS csz numc okT nt cl w0 (sp c d) r k s k1 := fun _ _ h1 => (sp_is h h').1 h1
def zq : jQ := .agg [.lit (.bool false), .lit (.int .u64 0), .lit (.int .u64 0), .lit (.pointer none)]
def fits (n k : Nat) : Bool := Nat.ble n k && Nat.ble k 1000000
theorem fits_le {n k : Nat} (h : fits n k = true) : n ≤ k ∧ k ≤ 1000000 := by
 simp only [fits, Bool.and_eq_true] at h
 exact ⟨Nat.le_of_ble_eq_true h.1, Nat.le_of_ble_eq_true h.2⟩
theorem ent_qqq {f : Nat} (hE : Enters Tryz.prog f) (h1 : PQ csz numc okT nt cl w0 p1 r k1) (h2 : PQ csz numc okT nt cl w0 p2 s k2) (h3 : cl[c3]? = some (clQ t k3)) (hz : cB r k1 → cB s k2 → cB t k3)
 (hc : ∀ W v1 v2, Below w0.heap.size w0 W → js W v1 r → cB r k1 → js W v2 s → cB s k2 → Calls Tryz.prog f #[v1, v2] W (jS W t)) : V csz numc okT nt cl w0 (.call f) [p1, p2] (.val (qp c3)) := by
 refine ⟨hE, fun w vs hb hvs => ?_⟩
 obtain ⟨v1, _, rfl, h4, v2, _, rfl, h5, rfl⟩ := hvs
 have h4 := h1 _ _ h4
 have h5 := h2 _ _ h5
 refine (hc w v1 v2 hb h4.1 h4.2 h5.1 h5.2).mono ?_
 rintro e w' ⟨v, rfl, hv, hb'⟩
 exact ⟨v, rfl, (qp_is h3).2 ⟨hv, hz h4.2 h5.2⟩, hb'⟩
theorem e_plus (hG : Gr w0) (h1 : PQ csz numc okT nt cl w0 p1 r k1) (h2 : PQ csz numc okT nt cl w0 p2 s k2) (h3 : cl[c3]? = some (clQ (r + s) k3)) (hk : fits (k1 + k2 + 1) k3 = true) : V csz numc okT nt cl w0 (.call 25) [p1, p2] (.val (qp c3)) := by
 have hk := fits_le hk
 exact ent_qqq (enters_of Tryz.func25 (by kernel_rfl) rfl) h1 h2 h3 (fun z1 z2 => (z1.add z2).le (by omega)) (fun W v1 v2 hb q1 z1 q2 z2 => plus_q v1 v2 r s k3 W q1 q2 (z1.le (by omega)) (z2.le (by omega)) (by omega) (hG.below hb hG.size))
theorem e_known (hG : Gr w0) : V csz numc okT nt cl w0 (.call 10) [] (.val (vp (.bool true))) := by
 refine ⟨enters_of Tryz.func10 (by kernel_rfl) rfl, fun w vs hb hvs => ?_⟩
 have hvs : vs = [] := hvs
 subst hvs
 refine (known_any w (hG.below hb hG.size)).mono ?_
 rintro e w' ⟨rfl, hb'⟩
 exact ⟨_, rfl, vp_r _ _ _, hb'⟩
end
end Sym
end Go.Proofs.YtccabfblgjcboaaGreatDoor
