/- ExactOrder: for all texts the call returns true: the order is total and agrees with sums, with products by positive numbers, and with the integers below and above a number. No condition. -/
import Derived.Test.YtojploidgagmgaaGreatDoorJ6
import Derived.Test.YtojploidgagmgaaGreatDoorJF
set_option linter.unusedVariables false
set_option linter.unusedSimpArgs false

/- The mathematics of the order: comparisons, signs, integers below and above. -/
namespace Go.Proofs.YtojploidgagmgaaGreatDoor
open Go Go.RowKit Go.Proofs Lim

theorem sign_eq (r : Rat) : sign r = if r < 0 then -1 else if 0 < r then 1 else 0 := by
  unfold sign
  have h : r.num = 0 ↔ r = 0 := Rat.num_eq_zero
  have h2 : 0 ≤ r.num ↔ 0 ≤ r := Rat.num_nonneg
  have h3 : r.num < 0 ↔ r < 0 := by rw [← Int.not_le, h2, Rat.not_le]
  by_cases e : r = 0
  · subst e; decide +kernel
  · rw [if_neg (fun k => e (h.1 k))]
    by_cases k : r < 0
    · rw [if_pos (h3.2 k), if_pos k]
    · rw [if_neg (fun j => k (h3.1 j)), if_neg k, if_pos (by grind)]
theorem cmp_swap (x y : Rat) : cmpQ y x = -cmpQ x y := by unfold cmpQ; grind
theorem cmp_range (x y : Rat) : -1 ≤ cmpQ x y ∧ cmpQ x y ≤ 1 := by unfold cmpQ; grind
theorem sign_range (x : Rat) : -1 ≤ sign x ∧ sign x ≤ 1 := by rw [sign_eq]; grind
theorem sign_sub (x y : Rat) : sign (x - y) = cmpQ x y := by rw [sign_eq]; unfold cmpQ; grind
theorem cmp_add (x y z : Rat) : cmpQ (x + z) (y + z) = cmpQ x y := by unfold cmpQ; grind
theorem cmp_mul (x y z : Rat) : cmpQ (x * z) (y * z) = cmpQ x y * sign z := by
  rw [sign_eq]
  unfold cmpQ
  have key : ∀ {u v : Rat}, u < v → 0 < z → u * z < v * z := fun h k => Rat.mul_lt_mul_of_pos_right h k
  have keyn : ∀ {u v : Rat}, u < v → z < 0 → v * z < u * z := fun {u v} h k => by
    have := Rat.mul_lt_mul_of_pos_right h (show 0 < -z by grind)
    grind
  by_cases hz : z < 0
  · rw [if_pos hz]
    by_cases h1 : x < y
    · have := keyn h1 hz; grind
    · by_cases h2 : y < x
      · have := keyn h2 hz; grind
      · have : x = y := by grind
        subst this; grind
  · rw [if_neg hz]
    by_cases hz2 : 0 < z
    · rw [if_pos hz2]
      by_cases h1 : x < y
      · have := key h1 hz2; grind
      · by_cases h2 : y < x
        · have := key h2 hz2; grind
        · have : x = y := by grind
          subst this; grind
    · have : z = 0 := by grind
      subst this; grind
theorem cmp_le {x y : Rat} : cmpQ x y ≤ 0 ↔ x ≤ y := by unfold cmpQ; grind
theorem cmp_lt {x y : Rat} : cmpQ x y < 0 ↔ x < y := by unfold cmpQ; grind
theorem cmp_ge {x y : Rat} : 0 ≤ cmpQ x y ↔ y ≤ x := by unfold cmpQ; grind
theorem cmp_gt {x y : Rat} : 0 < cmpQ x y ↔ y < x := by unfold cmpQ; grind
theorem cmp_trans {x y z : Rat} (h1 : cmpQ x y ≤ 0) (h2 : cmpQ y z ≤ 0) : cmpQ x z ≤ 0 := by rw [cmp_le] at *; grind
theorem cmp_floor (x : Rat) : cmpQ ((x.floor : Int) : Rat) x ≤ 0 := cmp_le.2 (Rat.floor_le _)
theorem cmp_floor1 (x : Rat) : cmpQ x (((x.floor : Int) : Rat) + 1) < 0 := cmp_lt.2 (by
  have h := Rat.lt_floor_add_one x
  simpa using h)
theorem cmp_ceil (x : Rat) : 0 ≤ cmpQ ((x.ceil : Int) : Rat) x := cmp_ge.2 Rat.le_ceil
theorem cmp_ceil1 (x : Rat) : 0 < cmpQ x (((x.ceil : Int) : Rat) - 1) := cmp_gt.2 (by
  have h := Rat.ceil_lt (x := x)
  grind)
theorem num_over_den (x : Rat) : ((x.num : Int) : Rat) / (((x.den : Nat) : Int) : Rat) = x := by
  have := Rat.num_divInt_den x
  rw [Rat.divInt_eq_div] at this
  exact this
theorem whole_den {x : Rat} {i : Int} (h : ((i : Int) : Rat) = x) : x.den = 1 := by rw [← h]; rfl
theorem den_whole {x : Rat} (h : x.den = 1) : ((x.num : Int) : Rat) = x := by
  have := num_over_den x
  rw [h] at this
  have h1 : (((1 : Nat) : Int) : Rat) = 1 := rfl
  rw [h1] at this
  grind
theorem floor_whole (x : Rat) : decide (((x.floor : Int) : Rat) = x) = decide (x.den = 1) := by
  rw [decide_eq_decide]
  refine ⟨fun h => whole_den h, fun h => ?_⟩
  have e := den_whole h
  have : x.floor = x.num := by rw [← e]; simp [Rat.floor_intCast]
  rw [this, e]
theorem ceil_whole (x : Rat) : decide (((x.ceil : Int) : Rat) = x) = decide (x.den = 1) := by
  rw [decide_eq_decide]
  refine ⟨fun h => whole_den h, fun h => ?_⟩
  have e := den_whole h
  have : x.ceil = x.num := by
    rw [Rat.ceil_eq_neg_floor_neg]
    have e2 : -x = ((-x.num : Int) : Rat) := by rw [← e]; simp
    rw [e2, Rat.floor_intCast]
    simp
  rw [this, e]
theorem den_is_one (x : Rat) : decide ((((x.den : Nat) : Int) : Rat) = 1) = decide (x.den = 1) := by
  rw [decide_eq_decide]
  constructor
  · intro h
    have h2 : (((x.den : Nat) : Int) : Rat) = ((1 : Int) : Rat) := by simpa using h
    have := Rat.intCast_inj.1 h2
    omega
  · intro h
    rw [h]
    simp
theorem den_num (x : Rat) : ((((x.den : Nat) : Int) : Rat)).num ≠ 0 := by
  show ((x.den : Nat) : Int) ≠ 0
  have := x.den_nz
  omega
theorem sign_den (x : Rat) : sign (((x.den : Nat) : Int) : Rat) = 1 := by
  unfold sign
  have h : ((((x.den : Nat) : Int) : Rat)).num = ((x.den : Nat) : Int) := rfl
  have := x.den_pos
  rw [h, if_neg (by omega), if_neg (by omega)]
theorem floor_num (x : Rat) : (((((x.num : Int) : Rat)).floor : Int) : Rat) = ((x.num : Int) : Rat) := by rw [Rat.floor_intCast]

theorem o_cmp_is (r s : Rat) (c : Int) (h : cmpQ r s = c) (v1 v2 : Value) (W : World) (h1 : IsQ W v1 r) (h2 : IsQ W v2 s) (z1 : Sz r) (z2 : Sz s) : Calls Tryz.prog 35 #[v1, v2] W (Val W (.int .i64 c)) :=
  h ▸ o_cmp v1 v2 r s W h1 h2 z1 z2
theorem o_sign_is (r : Rat) (c : Int) (h : sign r = c) (v : Value) (W : World) (h1 : IsQ W v r) : Calls Tryz.prog 23 #[v] W (Val W (.int .i64 c)) :=
  h ▸ o_sign v r W h1
theorem o_eq_is (r s : Rat) (b : Bool) (h : decide (r = s) = b) (v1 v2 : Value) (W : World) (h1 : IsQ W v1 r) (h2 : IsQ W v2 s) (z1 : Sz r) (z2 : Sz s) : Calls Tryz.prog 77 #[v1, v2] W (Val W (.bool b)) :=
  h ▸ o_eqs v1 v2 r s W h1 h2 z1 z2
theorem Siz.floor {r : Rat} {k : Nat} (h : Siz r k) (hk : 1 ≤ k) : Siz ((r.floor : Int) : Rat) (k + 2) := by
  rw [floor_cut]
  have h1 := h.cut hk
  split
  · have := h1.sub (siz_int 1 (by decide) (by decide))
    rw [Rat.intCast_sub]
    exact this.le (by omega)
  · exact h1.le (by omega)
theorem Siz.ceil {r : Rat} {k : Nat} (h : Siz r k) (hk : 1 ≤ k) : Siz ((r.ceil : Int) : Rat) (k + 2) := by
  rw [ceil_cut]
  have h1 := h.cut hk
  split
  · have := h1.add (siz_int 1 (by decide) (by decide))
    rw [Rat.intCast_add]
    exact this.le (by omega)
  · exact h1.le (by omega)
theorem Siz.num {r : Rat} {k : Nat} (h : Siz r k) (hk : 1 ≤ k) : Siz ((r.num : Int) : Rat) k := by
  refine ⟨h.1, ?_⟩
  show 1 < B ^ k
  have : B ^ 1 ≤ B ^ k := Nat.pow_le_pow_right B_pos hk
  rw [Nat.pow_one] at this
  have h2 : 1 < B := by decide
  omega
theorem Siz.dens {r : Rat} {k : Nat} (h : Siz r k) (hk : 1 ≤ k) : Siz (((r.den : Nat) : Int) : Rat) k := by
  refine ⟨h.2, ?_⟩
  show 1 < B ^ k
  have : B ^ 1 ≤ B ^ k := Nat.pow_le_pow_right B_pos hk
  rw [Nat.pow_one] at this
  have h2 : 1 < B := by decide
  omega


theorem al {k : Nat} {w W : World} (h : Below k w W) {o : Obj} (hk : k ≤ W.heap.size) : Below k w (W.alloc o) := h.alloc hk o
theorem al1 {w W : World} (h : Below w.heap.size w W) {o : Obj} : Below w.heap.size w (W.alloc o) := h.alloc h.size o
theorem al2 {w W : World} (h : Below w.heap.size w W) {o o' : Obj} : Below w.heap.size w ((W.alloc o).alloc o') := al1 (al1 h)
/-- The blocks that stood before a call. -/
theorem blk1 {W W' : World} {o : Obj} (h : Below (W.alloc o).heap.size (W.alloc o) W') : W'.heap[W.heap.size]? = some o := by
  rw [h.block _ (by show _ < (W.heap.push _).size; simp)]
  show (W.heap.push _)[W.heap.size]? = _
  simp
theorem blk2 {W W' : World} {o o' : Obj} (h : Below ((W.alloc o).alloc o').heap.size ((W.alloc o).alloc o') W') : W'.heap[W.heap.size]? = some o ∧ W'.heap[W.heap.size + 1]? = some o' := by
  have h1 : W.heap.size < ((W.heap.push o).push o').size := by simp; omega
  have h2 : W.heap.size + 1 < ((W.heap.push o).push o').size := by simp
  constructor
  · rw [h.block _ h1]
    show ((W.heap.push o).push o')[W.heap.size]? = _
    simp [Array.getElem?_push]
  · rw [h.block _ h2]
    show ((W.heap.push o).push o')[W.heap.size + 1]? = _
    rw [Array.getElem?_push, if_pos (by simp)]

theorem blk1d {W W' : World} {o : Obj} (h : Below (W.alloc o).drew.heap.size (W.alloc o).drew W') : W'.heap[W.heap.size]? = some o := by
  rw [h.block _ (by show _ < (W.heap.push _).size; simp)]
  show (W.heap.push _)[W.heap.size]? = _
  simp
theorem blk2d {W W' : World} {o o' : Obj} (h : Below ((W.alloc o).alloc o').drew.heap.size ((W.alloc o).alloc o').drew W') : W'.heap[W.heap.size]? = some o ∧ W'.heap[W.heap.size + 1]? = some o' := by
  have h1 : W.heap.size < ((W.heap.push o).push o').size := by simp; omega
  have h2 : W.heap.size + 1 < ((W.heap.push o).push o').size := by simp
  constructor
  · rw [h.block _ h1]
    show ((W.heap.push o).push o')[W.heap.size]? = _
    simp [Array.getElem?_push]
  · rw [h.block _ h2]
    show ((W.heap.push o).push o')[W.heap.size + 1]? = _
    rw [Array.getElem?_push, if_pos (by simp)]

def FalseB (w0 : World) (s : Value) (wx : World) : Prop := s = .bool false ∧ Below w0.heap.size w0 wx
/-- The four cells of a number's box, to be read. -/
def QC (W : World) (b : Nat) (c0 c1 c2 c3 : Value) : Prop := W.cell? ⟨b, 0, none⟩ = some c0 ∧ W.cell? ⟨b, 1, none⟩ = some c1 ∧ W.cell? ⟨b, 2, none⟩ = some c2 ∧ W.cell? ⟨b, 3, none⟩ = some c3
theorem QC.cells {W : World} {b : Nat} {c0 c1 c2 c3 : Value} (h : QC W b c0 c1 c2 c3) :
    W.cell? ⟨b, 0, none⟩ = some c0 ∧ W.cell? ⟨b, 1, none⟩ = some c1 ∧ W.cell? ⟨b, 2, none⟩ = some c2 ∧ W.cell? ⟨b, 3, none⟩ = some c3 := h
theorem QC.below {W W' : World} {b k : Nat} {c0 c1 c2 c3 : Value} (h : QC W b c0 c1 c2 c3) (hb : Below k W W') (hk : W.heap.size ≤ k) : QC W' b c0 c1 c2 c3 := by
  have hlt := Nat.lt_of_lt_of_le (World.block_lt_of_cell? W _ h.1) hk
  exact ⟨(hb.cell (p := ⟨b, 0, none⟩) hlt).trans h.1, (hb.cell (p := ⟨b, 1, none⟩) hlt).trans h.2.1, (hb.cell (p := ⟨b, 2, none⟩) hlt).trans h.2.2.1, (hb.cell (p := ⟨b, 3, none⟩) hlt).trans h.2.2.2⟩

/-- Two boxes of numbers. -/
def TwoB (w0 : World) (r1 r2 : Rat) (sA sB : Value) (wx : World) : Prop := ∃ m1 m2 s a b p s' a' b' p', sA = .pointer (some ⟨m1, 0, none⟩) ∧ sB = .pointer (some ⟨m2, 0, none⟩) ∧
  QC wx m1 (.bool s) (u a) (u b) (.pointer p) ∧ QC wx m2 (.bool s') (u a') (u b') (.pointer p') ∧ IsQ wx (.agg #[.bool s, u a, u b, .pointer p]) r1 ∧ IsQ wx (.agg #[.bool s', u a', u b', .pointer p']) r2 ∧ Below w0.heap.size w0 wx

/-- What four stores into a box of a number leave. -/
abbrev set4 (W : World) (R : Nat) (d0 d1 d2 d3 : Value) : World := (((W.setCell ⟨R, 0, none⟩ d0).setCell ⟨R, 1, none⟩ d1).setCell ⟨R, 2, none⟩ d2).setCell ⟨R, 3, none⟩ d3
theorem isq_alloc {W : World} {v : Value} {r : Rat} {o : Obj} (h : IsQ W v r) : IsQ (W.alloc o) v r := h.below (below1 W o) (Nat.le_refl _)
theorem isq_set4 {W : World} {R : Nat} {v : Value} {r : Rat} {d0 d1 d2 d3 : Value} (hR : NBox W R) (h : IsQ W v r) : IsQ (set4 W R d0 d1 d2 d3) v r := h.other hR (only4 W R 0 d0 d1 d2 d3)
theorem nb_lt {W : World} {R : Nat} (h : NBox W R) : R < W.heap.size := by
  obtain ⟨cs, t, fr, hb, _, _⟩ := h
  exact (Array.getElem?_eq_some_iff.1 hb).1
theorem nb_alloc {W : World} {R : Nat} {o : Obj} (h : NBox W R) : NBox (W.alloc o) R := h.of_block ((below1 W o).block R (nb_lt h))
theorem nb_new {W : World} {s : Bool} {d1 d2 d3 : Value} : NBox (W.alloc (.cells #[.bool s, d1, d2, d3] 26)) W.heap.size := Box.nbox (c1 := d1) (c2 := d2) (c3 := d3) (heap_alloc_new W _)
theorem nb_new1 {W : World} {o : Obj} {s : Bool} {d1 d2 d3 : Value} : NBox ((W.alloc o).alloc (.cells #[.bool s, d1, d2, d3] 26)) (W.heap.size + 1) := by
  have h : (W.alloc o).heap.size = W.heap.size + 1 := by show (W.heap.push _).size = _; simp
  rw [← h]
  exact nb_new
theorem nb_set {W : World} {R R' : Nat} {s : Bool} {d1 d2 d3 : Value} (h : NBox W R) : NBox (set4 W R' (.bool s) d1 d2 d3) R := by
  by_cases e : R = R'
  · subst e
    obtain ⟨cs, t, fr, hb, ht, hz⟩ := h
    refine ⟨(((cs.setIfInBounds 0 (.bool s)).setIfInBounds 1 d1).setIfInBounds 2 d2).setIfInBounds 3 d3, t, fr, ?_, ht, ?_⟩
    · simp only [set4, World.setCell, Array.getElem?_modify, hb]
      rfl
    · intro x hx
      by_cases h0 : 0 < cs.size
      · simp [h0] at hx
        exact ⟨s, hx.symm⟩
      · have : cs.size = 0 := by omega
        simp [this] at hx
  · exact h.of_block ((only4 W R' 0 (.bool s) d1 d2 d3).block R e)
theorem bl_alloc {k : Nat} {w W : World} {o : Obj} (h : Below k w W) (hk : k ≤ W.heap.size) : Below k w (W.alloc o) := h.alloc hk o
theorem bl_set4 {k : Nat} {w W : World} {R : Nat} {d0 d1 d2 d3 : Value} (h : Below k w W) (hk : k ≤ R) : Below k w (set4 W R d0 d1 d2 d3) := h.trans ((only4 W R 0 d0 d1 d2 d3).below hk)

theorem qc_alloc {W : World} {b : Nat} {c0 c1 c2 c3 : Value} {o : Obj} (h : QC W b c0 c1 c2 c3) : QC (W.alloc o) b c0 c1 c2 c3 := h.below (below1 W o) (Nat.le_refl _)
theorem qc_box {W : World} {b : Nat} {c0 c1 c2 c3 : Value} (h : Box W b c0 c1 c2 c3) : QC W b c0 c1 c2 c3 := h.cells
theorem qc_new {W : World} {c0 c1 c2 c3 : Value} : QC (W.alloc (.cells #[c0, c1, c2, c3] 26)) W.heap.size c0 c1 c2 c3 := qc_box (heap_alloc_new W _)
theorem qc_new1 {W : World} {o : Obj} {c0 c1 c2 c3 : Value} : QC ((W.alloc o).alloc (.cells #[c0, c1, c2, c3] 26)) (W.heap.size + 1) c0 c1 c2 c3 := by
  have h : (W.alloc o).heap.size = W.heap.size + 1 := by show (W.heap.push _).size = _; simp
  rw [← h]
  exact qc_new
theorem box_set4 {W : World} {R : Nat} {c0 c1 c2 c3 d0 d1 d2 d3 : Value} (h : Box W R c0 c1 c2 c3) : Box (set4 W R d0 d1 d2 d3) R d0 d1 d2 d3 :=
  setCell_block (o := 3) (v := d3) (setCell_block (o := 2) (v := d2) (setCell_block (o := 1) (v := d1) (setCell_block (o := 0) (v := d0) h)))
theorem box_other {W : World} {R R' : Nat} {c0 c1 c2 c3 d0 d1 d2 d3 : Value} (h : Box W R c0 c1 c2 c3) (e : R ≠ R') : Box (set4 W R' d0 d1 d2 d3) R c0 c1 c2 c3 :=
  ((only4 W R' 0 d0 d1 d2 d3).block R e).trans h
theorem box_alloc {W : World} {R : Nat} {c0 c1 c2 c3 : Value} {o : Obj} (h : Box W R c0 c1 c2 c3) : Box (W.alloc o) R c0 c1 c2 c3 := h.below (below1 W o) (Nat.le_refl _)
theorem box_lt {W : World} {R : Nat} {c0 c1 c2 c3 : Value} (h : Box W R c0 c1 c2 c3) : R < W.heap.size := (Array.getElem?_eq_some_iff.1 h).1

/-- What two numbers leave that are stored into two new variables, in whatever order these came up. -/
structure TwoIn (w0 V : World) (r1 r2 : Rat) (s1 s2 : Bool) (a1 b1 a2 b2 : Nat) (p1 p2 : Option Addr) : Prop where
  q1 : IsQ V (.agg #[.bool s1, u a1, u b1, .pointer p1]) r1
  q2 : IsQ V (.agg #[.bool s2, u a2, u b2, .pointer p2]) r2
  hb : Below w0.heap.size w0 V

section
variable {w0 V : World} {r1 r2 : Rat} {s1 s2 z1 z2 : Bool} {a1 b1 a2 b2 : Nat} {p1 p2 : Option Addr} {y1 y2 y3 y4 y5 y6 : Value}
theorem two_old {A C : Nat} (h : TwoIn w0 V r1 r2 s1 s2 a1 b1 a2 b2 p1 p2) (hA : Box V A (.bool z1) y1 y2 y3) (hC : Box V C (.bool z2) y4 y5 y6) (e : A ≠ C) (lA : w0.heap.size ≤ A) (lC : w0.heap.size ≤ C) :
    TwoB w0 r1 r2 (.pointer (some ⟨A, 0, none⟩)) (.pointer (some ⟨C, 0, none⟩)) (set4 (set4 V A (.bool s1) (u a1) (u b1) (.pointer p1)) C (.bool s2) (u a2) (u b2) (.pointer p2)) :=
  ⟨_, _, _, _, _, _, _, _, _, _, rfl, rfl, qc_box (box_other (box_set4 hA) e), qc_box (box_set4 (box_other hC (Ne.symm e))), isq_set4 (nb_set (Box.nbox hC)) (isq_set4 (Box.nbox hA) h.q1), isq_set4 (nb_set (Box.nbox hC)) (isq_set4 (Box.nbox hA) h.q2), bl_set4 (bl_set4 h.hb lA) lC⟩
theorem two_oldnew {A : Nat} (h : TwoIn w0 V r1 r2 s1 s2 a1 b1 a2 b2 p1 p2) (hA : Box V A (.bool z1) y1 y2 y3) (lA : w0.heap.size ≤ A) :
    TwoB w0 r1 r2 (.pointer (some ⟨A, 0, none⟩)) (.pointer (some ⟨V.heap.size, 0, none⟩)) ((set4 V A (.bool s1) (u a1) (u b1) (.pointer p1)).alloc (.cells #[.bool s2, u a2, u b2, .pointer p2] 26)) := by
  have hs : (set4 V A (.bool s1) (u a1) (u b1) (.pointer p1)).heap.size = V.heap.size := (only4 V A 0 _ _ _ _).size
  refine ⟨_, _, _, _, _, _, _, _, _, _, rfl, rfl, qc_alloc (qc_box (box_set4 hA)), ?_, isq_alloc (isq_set4 (Box.nbox hA) h.q1), isq_alloc (isq_set4 (Box.nbox hA) h.q2), al1 (bl_set4 h.hb lA)⟩
  rw [← hs]
  exact qc_new
theorem two_newold {C : Nat} (h : TwoIn w0 V r1 r2 s1 s2 a1 b1 a2 b2 p1 p2) (hC : Box V C (.bool z2) y4 y5 y6) (lC : w0.heap.size ≤ C) :
    TwoB w0 r1 r2 (.pointer (some ⟨V.heap.size, 0, none⟩)) (.pointer (some ⟨C, 0, none⟩)) ((set4 V C (.bool s2) (u a2) (u b2) (.pointer p2)).alloc (.cells #[.bool s1, u a1, u b1, .pointer p1] 26)) := by
  have hs : (set4 V C (.bool s2) (u a2) (u b2) (.pointer p2)).heap.size = V.heap.size := (only4 V C 0 _ _ _ _).size
  refine ⟨_, _, _, _, _, _, _, _, _, _, rfl, rfl, ?_, qc_alloc (qc_box (box_set4 hC)), isq_alloc (isq_set4 (Box.nbox hC) h.q1), isq_alloc (isq_set4 (Box.nbox hC) h.q2), al1 (bl_set4 h.hb lC)⟩
  rw [← hs]
  exact qc_new
theorem two_newold' {C : Nat} (h : TwoIn w0 V r1 r2 s1 s2 a1 b1 a2 b2 p1 p2) (hC : Box V C (.bool z2) y4 y5 y6) (lC : w0.heap.size ≤ C) :
    TwoB w0 r1 r2 (.pointer (some ⟨V.heap.size, 0, none⟩)) (.pointer (some ⟨C, 0, none⟩)) (set4 (V.alloc (.cells #[.bool s1, u a1, u b1, .pointer p1] 26)) C (.bool s2) (u a2) (u b2) (.pointer p2)) := by
  have e : V.heap.size ≠ C := Nat.ne_of_gt (box_lt hC)
  refine ⟨_, _, _, _, _, _, _, _, _, _, rfl, rfl, ?_, qc_box (box_set4 (box_alloc hC)), isq_set4 (nb_alloc (Box.nbox hC)) (isq_alloc h.q1), isq_set4 (nb_alloc (Box.nbox hC)) (isq_alloc h.q2), bl_set4 (al1 h.hb) lC⟩
  exact qc_box (box_other (heap_alloc_new V _) e)
theorem two_new (h : TwoIn w0 V r1 r2 s1 s2 a1 b1 a2 b2 p1 p2) :
    TwoB w0 r1 r2 (.pointer (some ⟨V.heap.size, 0, none⟩)) (.pointer (some ⟨V.heap.size + 1, 0, none⟩)) ((V.alloc (.cells #[.bool s1, u a1, u b1, .pointer p1] 26)).alloc (.cells #[.bool s2, u a2, u b2, .pointer p2] 26)) :=
  ⟨_, _, _, _, _, _, _, _, _, _, rfl, rfl, qc_alloc qc_new, qc_new1, isq_alloc (isq_alloc h.q1), isq_alloc (isq_alloc h.q2), al2 h.hb⟩
theorem two_new' (h : TwoIn w0 V r1 r2 s1 s2 a1 b1 a2 b2 p1 p2) :
    TwoB w0 r1 r2 (.pointer (some ⟨V.heap.size + 1, 0, none⟩)) (.pointer (some ⟨V.heap.size, 0, none⟩)) ((V.alloc (.cells #[.bool s2, u a2, u b2, .pointer p2] 26)).alloc (.cells #[.bool s1, u a1, u b1, .pointer p1] 26)) :=
  ⟨_, _, _, _, _, _, _, _, _, _, rfl, rfl, qc_new1, qc_alloc qc_new, isq_alloc (isq_alloc h.q1), isq_alloc (isq_alloc h.q2), al2 h.hb⟩
end

end Go.Proofs.YtojploidgagmgaaGreatDoor

/- ExactOrder: for all texts the call returns true: the order is total and agrees with sums, with products by positive numbers, and with the integers below and above a number. No condition. -/
namespace Go.Proofs.YtojploidgagmgaaGreatDoor
open Go Go.RowKit Go.Proofs Lim
set_option maxHeartbeats 40000000 in
set_option maxRecDepth 100000 in
theorem order_walk (l1 l2 l3 : List UInt8) (w : World) (hG : Gr w) :
    Calls Tryz.prog 10 #[str l1, str l2, str l3] w (Val w (.bool true)) := by
  have HLong := Lib.hid (fun cs W hc => o_long [l1, l2, l3] cs 3 W hc rfl (by simp))
  have HKn := Lib.hid (o_known w hG)
  cases hlen : [l1, l2, l3].any (fun x => decide (120 < x.length)) with
  | true =>
    rw [hlen] at HLong
    clear hlen
    go_enter Tryz.func10, Tryz.ntmps10
    go_wp2_with fail
    refine (HLong.out _ _ rfl).mono ?_
    rintro e W1 ⟨rfl, hb⟩
    have HB1 := Lib.hid hb
    clear hb
    go_wp2_with fail
    refine (HKn.out _ HB1.out).mono ?_
    rintro e W2 ⟨rfl, hb⟩
    have HB2 := Lib.hid (chain1 HB1.out hb)
    clear hb
    go_wp2_with fail
    exact bodyPost_ret (v := .bool true) (by simp [results, Tryz.results10, go_sem]) rfl ⟨rfl, HB2.out⟩
  | false =>
    rw [hlen] at HLong
    have k := long_lens hlen
    have k1 := k l1 (by simp)
    have k2 := k l2 (by simp)
    have k3 := k l3 (by simp)
    clear k hlen
    have N1 := Lib.hid (fun W => o_number w hG l1 W (by omega))
    have N2 := Lib.hid (fun W => o_number w hG l2 W (by omega))
    have N3 := Lib.hid (fun W => o_number w hG l3 W (by omega))
    have z1 := sz_read k1
    have z2 := sz_read k2
    have z3 := sz_read k3
    clear k1 k2 k3
    generalize (readQ l1).1 = x at *
    generalize (readQ l2).1 = y at *
    generalize (readQ l3).1 = z at *
    have OPlus := Lib.hid (o_plus w hG)
    have OMinus := Lib.hid (o_minus w hG)
    have OTimes := Lib.hid (o_times w hG)
    have ONeg := Lib.hid (o_neg)
    have OOne := Lib.hid (o_one)
    have OFloor := Lib.hid (o_floor w hG)
    have OCeil := Lib.hid (o_ceil w hG)
    have OOver := Lib.hid (o_over w hG)
    have HZ1 := Lib.hid z1
    have HZ2 := Lib.hid z2
    have HZ3 := Lib.hid z3
    obtain ⟨k, hk⟩ : ∃ k, cmpQ x y = k := ⟨_, rfl⟩
    obtain ⟨sg, hsg⟩ : ∃ sg, sign z = sg := ⟨_, rfl⟩
    obtain ⟨m, hm⟩ : ∃ m, cmpQ (x * z) (y * z) = m := ⟨_, rfl⟩
    have hmk : m = k * sg := by rw [← hm, cmp_mul, hk, hsg]
    have kr := cmp_range x y
    have sr := sign_range z
    have mr := cmp_range (x * z) (y * z)
    rw [hk] at kr
    rw [hsg] at sr
    rw [hm] at mr
    have HK := Lib.hid hk
    have HSg := Lib.hid hsg
    have HM := Lib.hid hm
    clear hk hsg hm
    have CK := Lib.hid (o_cmp_is x y k HK.out)
    obtain ⟨m2, hm2⟩ : ∃ m, cmpQ y z = m := ⟨_, rfl⟩
    have HM2 := Lib.hid hm2
    obtain ⟨m3, hm3⟩ : ∃ m, cmpQ x z = m := ⟨_, rfl⟩
    have HM3 := Lib.hid hm3
    clear hm2 hm3
    have CYZ := Lib.hid (o_cmp_is y z m2 HM2.out)
    have CXZ := Lib.hid (o_cmp_is x z m3 HM3.out)
    obtain ⟨c1, hc1⟩ : ∃ c, cmpQ ((x).floor : Rat) x = c := ⟨_, rfl⟩
    obtain ⟨c2, hc2⟩ : ∃ c, cmpQ x (((x).floor : Rat) + 1) = c := ⟨_, rfl⟩
    obtain ⟨c3, hc3⟩ : ∃ c, cmpQ ((x).ceil : Rat) x = c := ⟨_, rfl⟩
    obtain ⟨c4, hc4⟩ : ∃ c, cmpQ x (((x).ceil : Rat) - 1) = c := ⟨_, rfl⟩
    have i1 : c1 ≤ 0 := hc1 ▸ cmp_floor x
    have i2 : c2 < 0 := hc2 ▸ cmp_floor1 x
    have i3 : 0 ≤ c3 := hc3 ▸ cmp_ceil x
    have i4 : 0 < c4 := hc4 ▸ cmp_ceil1 x
    obtain ⟨wb, hwb⟩ : ∃ b, decide (x.den = 1) = b := ⟨_, rfl⟩
    have HC1 := Lib.hid hc1
    have HC2 := Lib.hid hc2
    have HC3 := Lib.hid hc3
    have HC4 := Lib.hid hc4
    have HWF := Lib.hid ((floor_whole x).trans hwb)
    have HWC := Lib.hid ((ceil_whole x).trans hwb)
    have HWD := Lib.hid ((den_is_one x).trans hwb)
    have f1 : decide (0 < c1) = false := by simpa using i1
    have f2 : decide (0 ≤ c2) = false := by simpa using i2
    have f3 : decide (c3 < 0) = false := by simpa using i3
    have f4 : decide (c4 ≤ 0) = false := by simpa using i4
    clear hc1 hc2 hc3 hc4 hwb i1 i2 i3 i4
    have CWF := Lib.hid (o_eq_is ((x).floor : Rat) x wb HWF.out)
    have ELLLLxRnumRatRRfloorRatR := Lib.hid (floor_num x)
    have ZLLLxRceilRatRM1R := Lib.hid (show Sz (((x).ceil : Rat) - 1) from Siz.sz ((HZ1.out.ceil (by decide)).sub siz_one) (by omega))
    have ZLLLxRdenIntRRatR := Lib.hid (show Sz (((x).den : Int) : Rat) from Siz.sz (HZ1.out.dens (by decide)) (by omega))
    have ZLLLxRfloorRatRP1R := Lib.hid (show Sz (((x).floor : Rat) + 1) from Siz.sz ((HZ1.out.floor (by decide)).add siz_one) (by omega))
    have ZLLxRceilRatR := Lib.hid (show Sz ((x).ceil : Rat) from Siz.sz (HZ1.out.ceil (by decide)) (by omega))
    have ZLLxRfloorRatR := Lib.hid (show Sz ((x).floor : Rat) from Siz.sz (HZ1.out.floor (by decide)) (by omega))
    have ZLLxRnumRatR := Lib.hid (show Sz ((x).num : Rat) from Siz.sz (HZ1.out.num (by decide)) (by omega))
    have ZLxTzR := Lib.hid (show Sz (x * z) from Siz.sz (HZ1.out.mul HZ3.out) (by omega))
    have ZLxPzR := Lib.hid (show Sz (x + z) from Siz.sz (HZ1.out.add HZ3.out) (by omega))
    have ZLyTzR := Lib.hid (show Sz (y * z) from Siz.sz (HZ2.out.mul HZ3.out) (by omega))
    have ZLyPzR := Lib.hid (show Sz (y + z) from Siz.sz (HZ2.out.add HZ3.out) (by omega))
    have Z1 := Lib.hid (show Sz (1 : Rat) from Siz.sz siz_one (by omega))
    have Zx := Lib.hid (show Sz x from Siz.sz HZ1.out (by omega))
    have Zy := Lib.hid (show Sz y from Siz.sz HZ2.out (by omega))
    have Zz := Lib.hid (show Sz z from Siz.sz HZ3.out (by omega))
    have C36 := Lib.hid (o_cmp_is (y) (x) (-k) (HK.out ▸ cmp_swap x y))
    have C51 := Lib.hid (o_sign_is ((x - y)) k (HK.out ▸ sign_sub x y))
    have C62 := Lib.hid (o_cmp_is ((x + z)) ((y + z)) k (HK.out ▸ cmp_add x y z))
    have C73 := Lib.hid (o_cmp_is ((x * z)) ((y * z)) m (HM.out))
    have C76 := Lib.hid (o_sign_is (z) sg (HSg.out))
    have C108 := Lib.hid (o_cmp_is (((x).floor : Rat)) (x) c1 (HC1.out))
    have C115 := Lib.hid (o_cmp_is (x) ((((x).floor : Rat) + 1)) c2 (HC2.out))
    have C121 := Lib.hid (o_cmp_is (((x).ceil : Rat)) (x) c3 (HC3.out))
    have C129 := Lib.hid (o_cmp_is (x) ((((x).ceil : Rat) - 1)) c4 (HC4.out))
    have C136 := Lib.hid (o_eq_is (((x).ceil : Rat)) (x) wb (HWC.out))
    have C143 := Lib.hid (o_eq_is ((((x).den : Int) : Rat)) (1) wb (HWD.out))
    have C157 := Lib.hid (o_eq_is (x) (x) true (decide_eq_true rfl))
    have C161 := Lib.hid (o_sign_is ((((x).den : Int) : Rat)) 1 (sign_den x))
    have C168 := Lib.hid (o_eq_is (((x).num : Rat)) (((x).num : Rat)) true (decide_eq_true rfl))
    have d1 : decide (k < -1) = false := by simpa using kr.1
    have d2 : decide (1 < k) = false := by simpa using kr.2
    have w1 : IntKind.i64.wrap k = k := by rw [IntKind.wrap_i64]; omega
    have w2 : IntKind.i64.wrap (-k) = -k := by rw [IntKind.wrap_i64]; omega
    have w3 : IntKind.i64.wrap (k * sg) = m := by rw [IntKind.wrap_i64]; omega
    clear z1 z2 z3 hG kr sr mr hmk
    go_enter Tryz.func10, Tryz.ntmps10
    go_wp2_with fail
    refine (HLong.out _ _ rfl).mono ?_
    rintro e W1 ⟨rfl, hb⟩
    have HB := Lib.hid hb
    clear hb
    go_wp2_with fail
    refine (N1.out _ HB.out).mono ?_
    rintro e W2 ⟨vx, rfl, hx, hb⟩
    have HB := Lib.hid (chain1 HB.out hb)
    clear hb
    obtain ⟨s1, a1, b1, p1, rfl⟩ := hx.form
    have HX := Lib.hid hx
    clear hx
    go_wp2_with fail
    refine (N2.out _ HB.out).mono ?_
    rintro e W3 ⟨vy, rfl, hy, hb⟩
    have HB := Lib.hid (chain1 HB.out hb)
    have HX := Lib.hid (HX.out.below hb (Nat.le_refl _))
    clear hb
    obtain ⟨s2, a2, b2, p2, rfl⟩ := hy.form
    have HY := Lib.hid hy
    clear hy
    go_wp2_with fail
    refine (N3.out _ HB.out).mono ?_
    rintro e W4 ⟨vz, rfl, hz, hb⟩
    have HB := Lib.hid (chain1 HB.out hb)
    have HX := Lib.hid (HX.out.below hb (Nat.le_refl _))
    have HY := Lib.hid (HY.out.below hb (Nat.le_refl _))
    clear hb
    obtain ⟨s3, a3, b3, p3, rfl⟩ := hz.form
    have HZ := Lib.hid hz
    clear hz
    go_upto_region 4 with fail
    obtain ⟨W5, hW, hb, hB1, hs⟩ := nbox W4 W4.heap.size rfl (.bool s1) (u a1) (u b1) (.pointer p1)
    rw [hW]; clear hW
    have HB := Lib.hid (chain1 HB.out hb)
    have HX := Lib.hid (HX.out.below hb (Nat.le_refl _)); have HY := Lib.hid (HY.out.below hb (Nat.le_refl _)); have HZ := Lib.hid (HZ.out.below hb (Nat.le_refl _))
    generalize W4.heap.size = n at *
    clear hb
    obtain ⟨W6, hW, hb, hB2, hs⟩ := nbox W5 (n + 1) hs (.bool s2) (u a2) (u b2) (.pointer p2)
    rw [hW]; clear hW
    have HB := Lib.hid (chain1 HB.out hb)
    have HX := Lib.hid (HX.out.below hb (Nat.le_refl _)); have HY := Lib.hid (HY.out.below hb (Nat.le_refl _)); have HZ := Lib.hid (HZ.out.below hb (Nat.le_refl _))
    have hB1 := hB1.below hb (Nat.le_refl _)
    clear hb
    obtain ⟨W0, hW, hb, hB3, hs⟩ := nbox W6 (n + 1 + 1) hs (.bool s3) (u a3) (u b3) (.pointer p3)
    rw [hW]; clear hW
    have HB := Lib.hid (chain1 HB.out hb)
    have Q1 := Lib.hid (HX.out.below hb (Nat.le_refl _)); have Q2 := Lib.hid (HY.out.below hb (Nat.le_refl _)); have Q3 := Lib.hid (HZ.out.below hb (Nat.le_refl _))
    have X1 := Lib.hid (hB1.below hb (Nat.le_refl _)); have X2 := Lib.hid (hB2.below hb (Nat.le_refl _)); have X3 := Lib.hid hB3
    clear hb hB1 hB2 hB3 hs HX HY HZ
    obtain ⟨c1_0, c1_1, c1_2, c1_3⟩ := X1.out.cells
    obtain ⟨c2_0, c2_1, c2_2, c2_3⟩ := X2.out.cells
    go_wp2_with fail
    refine (CK.out _ _ _ Q1.out Q2.out Zx.out Zy.out).mono ?_
    rintro e V4 ⟨rfl, hb⟩
    have HB := Lib.hid (chain1 HB.out hb)
    clear c1_0 c1_1 c1_2 c1_3 c2_0 c2_1 c2_2 c2_3
    have Q1 := Lib.hid (Q1.out.below hb (Nat.le_refl _))
    have X1 := Lib.hid (X1.out.below hb (Nat.le_refl _))
    have Q2 := Lib.hid (Q2.out.below hb (Nat.le_refl _))
    have X2 := Lib.hid (X2.out.below hb (Nat.le_refl _))
    have Q3 := Lib.hid (Q3.out.below hb (Nat.le_refl _))
    have X3 := Lib.hid (X3.out.below hb (Nat.le_refl _))
    clear hb
    go_upto_region 5 with fail
    have hb0 := Below.refl V4.heap.size V4
    have q1 := Q1.out
    obtain ⟨c1_0, c1_1, c1_2, c1_3⟩ := X1.out.cells
    have q2 := Q2.out
    obtain ⟨c2_0, c2_1, c2_2, c2_3⟩ := X2.out.cells
    have q3 := Q3.out
    obtain ⟨c3_0, c3_1, c3_2, c3_3⟩ := X3.out.cells
    go_region_held3 (fun w' => (w'.cell? ⟨n, 0, none⟩ = some (.bool s1) ∧ w'.cell? ⟨n, 1, none⟩ = some (u a1) ∧ w'.cell? ⟨n, 2, none⟩ = some (u b1) ∧ w'.cell? ⟨n, 3, none⟩ = some (.pointer p1)) ∧ (w'.cell? ⟨n + 1, 0, none⟩ = some (.bool s2) ∧ w'.cell? ⟨n + 1, 1, none⟩ = some (u a2) ∧ w'.cell? ⟨n + 1, 2, none⟩ = some (u b2) ∧ w'.cell? ⟨n + 1, 3, none⟩ = some (.pointer p2)) ∧ (w'.cell? ⟨n + 1 + 1, 0, none⟩ = some (.bool s3) ∧ w'.cell? ⟨n + 1 + 1, 1, none⟩ = some (u a3) ∧ w'.cell? ⟨n + 1 + 1, 2, none⟩ = some (u b3) ∧ w'.cell? ⟨n + 1 + 1, 3, none⟩ = some (.pointer p3))) (go_keep) (first | ((with_reducible refine (C36.out _ _ _ q2.drewn q1.drewn Zy.out Zx.out).mono ?_); rintro e V5 ⟨rfl, hb⟩; replace hb0 : Below V4.heap.size V4 V5 := chain hb0 hb; (try (replace t_50 := t_50.below hb (Nat.le_refl _))); (try (replace t_58 := t_58.below hb (Nat.le_refl _))); (try (replace t_61 := t_61.below hb (Nat.le_refl _))); (try (replace t_69 := t_69.below hb (Nat.le_refl _))); (try (replace t_72 := t_72.below hb (Nat.le_refl _))); clear hb; clear c1_0 c1_1 c1_2 c1_3 c2_0 c2_1 c2_2 c2_3 c3_0 c3_1 c3_2 c3_3; replace q1 := Q1.out.below hb0 (Nat.le_refl _); obtain ⟨c1_0, c1_1, c1_2, c1_3⟩ := (X1.out.below hb0 (Nat.le_refl _)).cells; replace q2 := Q2.out.below hb0 (Nat.le_refl _); obtain ⟨c2_0, c2_1, c2_2, c2_3⟩ := (X2.out.below hb0 (Nat.le_refl _)).cells; replace q3 := Q3.out.below hb0 (Nat.le_refl _); obtain ⟨c3_0, c3_1, c3_2, c3_3⟩ := (X3.out.below hb0 (Nat.le_refl _)).cells) | ((with_reducible refine (OMinus.out _ _ (x) (y) _ (chain1 HB.out hb0) q1 q2 Zx.out Zy.out).mono ?_); rintro e V5 ⟨v_t_50, rfl, t_50, hb⟩; obtain ⟨s_t_50, a_t_50, b_t_50, p_t_50, rfl⟩ := t_50.form; replace hb0 : Below V4.heap.size V4 V5 := chain1 hb0 hb; (try (replace t_58 := t_58.below hb (Nat.le_refl _))); (try (replace t_61 := t_61.below hb (Nat.le_refl _))); (try (replace t_69 := t_69.below hb (Nat.le_refl _))); (try (replace t_72 := t_72.below hb (Nat.le_refl _))); clear hb; clear c1_0 c1_1 c1_2 c1_3 c2_0 c2_1 c2_2 c2_3 c3_0 c3_1 c3_2 c3_3; replace q1 := Q1.out.below hb0 (Nat.le_refl _); obtain ⟨c1_0, c1_1, c1_2, c1_3⟩ := (X1.out.below hb0 (Nat.le_refl _)).cells; replace q2 := Q2.out.below hb0 (Nat.le_refl _); obtain ⟨c2_0, c2_1, c2_2, c2_3⟩ := (X2.out.below hb0 (Nat.le_refl _)).cells; replace q3 := Q3.out.below hb0 (Nat.le_refl _); obtain ⟨c3_0, c3_1, c3_2, c3_3⟩ := (X3.out.below hb0 (Nat.le_refl _)).cells) | ((with_reducible refine (C51.out _ _ t_50).mono ?_); rintro e V5 ⟨rfl, hb⟩; replace hb0 : Below V4.heap.size V4 V5 := chain1 hb0 hb; clear t_50; (try (replace t_58 := t_58.below hb (Nat.le_refl _))); (try (replace t_61 := t_61.below hb (Nat.le_refl _))); (try (replace t_69 := t_69.below hb (Nat.le_refl _))); (try (replace t_72 := t_72.below hb (Nat.le_refl _))); clear hb; clear c1_0 c1_1 c1_2 c1_3 c2_0 c2_1 c2_2 c2_3 c3_0 c3_1 c3_2 c3_3; replace q1 := Q1.out.below hb0 (Nat.le_refl _); obtain ⟨c1_0, c1_1, c1_2, c1_3⟩ := (X1.out.below hb0 (Nat.le_refl _)).cells; replace q2 := Q2.out.below hb0 (Nat.le_refl _); obtain ⟨c2_0, c2_1, c2_2, c2_3⟩ := (X2.out.below hb0 (Nat.le_refl _)).cells; replace q3 := Q3.out.below hb0 (Nat.le_refl _); obtain ⟨c3_0, c3_1, c3_2, c3_3⟩ := (X3.out.below hb0 (Nat.le_refl _)).cells) | ((with_reducible refine (OPlus.out _ _ (x) (z) _ (chain1 HB.out hb0) q1 q3 Zx.out Zz.out).mono ?_); rintro e V5 ⟨v_t_58, rfl, t_58, hb⟩; obtain ⟨s_t_58, a_t_58, b_t_58, p_t_58, rfl⟩ := t_58.form; replace hb0 : Below V4.heap.size V4 V5 := chain1 hb0 hb; (try (replace t_50 := t_50.below hb (Nat.le_refl _))); (try (replace t_61 := t_61.below hb (Nat.le_refl _))); (try (replace t_69 := t_69.below hb (Nat.le_refl _))); (try (replace t_72 := t_72.below hb (Nat.le_refl _))); clear hb; clear c1_0 c1_1 c1_2 c1_3 c2_0 c2_1 c2_2 c2_3 c3_0 c3_1 c3_2 c3_3; replace q1 := Q1.out.below hb0 (Nat.le_refl _); obtain ⟨c1_0, c1_1, c1_2, c1_3⟩ := (X1.out.below hb0 (Nat.le_refl _)).cells; replace q2 := Q2.out.below hb0 (Nat.le_refl _); obtain ⟨c2_0, c2_1, c2_2, c2_3⟩ := (X2.out.below hb0 (Nat.le_refl _)).cells; replace q3 := Q3.out.below hb0 (Nat.le_refl _); obtain ⟨c3_0, c3_1, c3_2, c3_3⟩ := (X3.out.below hb0 (Nat.le_refl _)).cells) | ((with_reducible refine (OPlus.out _ _ (y) (z) _ (chain1 HB.out hb0) q2 q3 Zy.out Zz.out).mono ?_); rintro e V5 ⟨v_t_61, rfl, t_61, hb⟩; obtain ⟨s_t_61, a_t_61, b_t_61, p_t_61, rfl⟩ := t_61.form; replace hb0 : Below V4.heap.size V4 V5 := chain1 hb0 hb; (try (replace t_50 := t_50.below hb (Nat.le_refl _))); (try (replace t_58 := t_58.below hb (Nat.le_refl _))); (try (replace t_69 := t_69.below hb (Nat.le_refl _))); (try (replace t_72 := t_72.below hb (Nat.le_refl _))); clear hb; clear c1_0 c1_1 c1_2 c1_3 c2_0 c2_1 c2_2 c2_3 c3_0 c3_1 c3_2 c3_3; replace q1 := Q1.out.below hb0 (Nat.le_refl _); obtain ⟨c1_0, c1_1, c1_2, c1_3⟩ := (X1.out.below hb0 (Nat.le_refl _)).cells; replace q2 := Q2.out.below hb0 (Nat.le_refl _); obtain ⟨c2_0, c2_1, c2_2, c2_3⟩ := (X2.out.below hb0 (Nat.le_refl _)).cells; replace q3 := Q3.out.below hb0 (Nat.le_refl _); obtain ⟨c3_0, c3_1, c3_2, c3_3⟩ := (X3.out.below hb0 (Nat.le_refl _)).cells) | ((with_reducible refine (C62.out _ _ _ t_58 t_61 ZLxPzR.out ZLyPzR.out).mono ?_); rintro e V5 ⟨rfl, hb⟩; replace hb0 : Below V4.heap.size V4 V5 := chain1 hb0 hb; (try (replace t_50 := t_50.below hb (Nat.le_refl _))); clear t_58; clear t_61; (try (replace t_69 := t_69.below hb (Nat.le_refl _))); (try (replace t_72 := t_72.below hb (Nat.le_refl _))); clear hb; clear c1_0 c1_1 c1_2 c1_3 c2_0 c2_1 c2_2 c2_3 c3_0 c3_1 c3_2 c3_3; replace q1 := Q1.out.below hb0 (Nat.le_refl _); obtain ⟨c1_0, c1_1, c1_2, c1_3⟩ := (X1.out.below hb0 (Nat.le_refl _)).cells; replace q2 := Q2.out.below hb0 (Nat.le_refl _); obtain ⟨c2_0, c2_1, c2_2, c2_3⟩ := (X2.out.below hb0 (Nat.le_refl _)).cells; replace q3 := Q3.out.below hb0 (Nat.le_refl _); obtain ⟨c3_0, c3_1, c3_2, c3_3⟩ := (X3.out.below hb0 (Nat.le_refl _)).cells) | ((with_reducible refine (OTimes.out _ _ (x) (z) _ (chain1 HB.out hb0) q1 q3 Zx.out Zz.out).mono ?_); rintro e V5 ⟨v_t_69, rfl, t_69, hb⟩; obtain ⟨s_t_69, a_t_69, b_t_69, p_t_69, rfl⟩ := t_69.form; replace hb0 : Below V4.heap.size V4 V5 := chain1 hb0 hb; (try (replace t_50 := t_50.below hb (Nat.le_refl _))); (try (replace t_58 := t_58.below hb (Nat.le_refl _))); (try (replace t_61 := t_61.below hb (Nat.le_refl _))); (try (replace t_72 := t_72.below hb (Nat.le_refl _))); clear hb; clear c1_0 c1_1 c1_2 c1_3 c2_0 c2_1 c2_2 c2_3 c3_0 c3_1 c3_2 c3_3; replace q1 := Q1.out.below hb0 (Nat.le_refl _); obtain ⟨c1_0, c1_1, c1_2, c1_3⟩ := (X1.out.below hb0 (Nat.le_refl _)).cells; replace q2 := Q2.out.below hb0 (Nat.le_refl _); obtain ⟨c2_0, c2_1, c2_2, c2_3⟩ := (X2.out.below hb0 (Nat.le_refl _)).cells; replace q3 := Q3.out.below hb0 (Nat.le_refl _); obtain ⟨c3_0, c3_1, c3_2, c3_3⟩ := (X3.out.below hb0 (Nat.le_refl _)).cells) | ((with_reducible refine (OTimes.out _ _ (y) (z) _ (chain1 HB.out hb0) q2 q3 Zy.out Zz.out).mono ?_); rintro e V5 ⟨v_t_72, rfl, t_72, hb⟩; obtain ⟨s_t_72, a_t_72, b_t_72, p_t_72, rfl⟩ := t_72.form; replace hb0 : Below V4.heap.size V4 V5 := chain1 hb0 hb; (try (replace t_50 := t_50.below hb (Nat.le_refl _))); (try (replace t_58 := t_58.below hb (Nat.le_refl _))); (try (replace t_61 := t_61.below hb (Nat.le_refl _))); (try (replace t_69 := t_69.below hb (Nat.le_refl _))); clear hb; clear c1_0 c1_1 c1_2 c1_3 c2_0 c2_1 c2_2 c2_3 c3_0 c3_1 c3_2 c3_3; replace q1 := Q1.out.below hb0 (Nat.le_refl _); obtain ⟨c1_0, c1_1, c1_2, c1_3⟩ := (X1.out.below hb0 (Nat.le_refl _)).cells; replace q2 := Q2.out.below hb0 (Nat.le_refl _); obtain ⟨c2_0, c2_1, c2_2, c2_3⟩ := (X2.out.below hb0 (Nat.le_refl _)).cells; replace q3 := Q3.out.below hb0 (Nat.le_refl _); obtain ⟨c3_0, c3_1, c3_2, c3_3⟩ := (X3.out.below hb0 (Nat.le_refl _)).cells) | ((with_reducible refine (C73.out _ _ _ t_69 t_72 ZLxTzR.out ZLyTzR.out).mono ?_); rintro e V5 ⟨rfl, hb⟩; replace hb0 : Below V4.heap.size V4 V5 := chain1 hb0 hb; (try (replace t_50 := t_50.below hb (Nat.le_refl _))); (try (replace t_58 := t_58.below hb (Nat.le_refl _))); (try (replace t_61 := t_61.below hb (Nat.le_refl _))); clear t_69; clear t_72; clear hb; clear c1_0 c1_1 c1_2 c1_3 c2_0 c2_1 c2_2 c2_3 c3_0 c3_1 c3_2 c3_3; replace q1 := Q1.out.below hb0 (Nat.le_refl _); obtain ⟨c1_0, c1_1, c1_2, c1_3⟩ := (X1.out.below hb0 (Nat.le_refl _)).cells; replace q2 := Q2.out.below hb0 (Nat.le_refl _); obtain ⟨c2_0, c2_1, c2_2, c2_3⟩ := (X2.out.below hb0 (Nat.le_refl _)).cells; replace q3 := Q3.out.below hb0 (Nat.le_refl _); obtain ⟨c3_0, c3_1, c3_2, c3_3⟩ := (X3.out.below hb0 (Nat.le_refl _)).cells) | ((with_reducible refine (C76.out _ _ q3).mono ?_); rintro e V5 ⟨rfl, hb⟩; replace hb0 : Below V4.heap.size V4 V5 := chain1 hb0 hb; (try (replace t_50 := t_50.below hb (Nat.le_refl _))); (try (replace t_58 := t_58.below hb (Nat.le_refl _))); (try (replace t_61 := t_61.below hb (Nat.le_refl _))); (try (replace t_69 := t_69.below hb (Nat.le_refl _))); (try (replace t_72 := t_72.below hb (Nat.le_refl _))); clear hb; clear c1_0 c1_1 c1_2 c1_3 c2_0 c2_1 c2_2 c2_3 c3_0 c3_1 c3_2 c3_3; replace q1 := Q1.out.below hb0 (Nat.le_refl _); obtain ⟨c1_0, c1_1, c1_2, c1_3⟩ := (X1.out.below hb0 (Nat.le_refl _)).cells; replace q2 := Q2.out.below hb0 (Nat.le_refl _); obtain ⟨c2_0, c2_1, c2_2, c2_3⟩ := (X2.out.below hb0 (Nat.le_refl _)).cells; replace q3 := Q3.out.below hb0 (Nat.le_refl _); obtain ⟨c3_0, c3_1, c3_2, c3_3⟩ := (X3.out.below hb0 (Nat.le_refl _)).cells) | fail)
    clear c1_0 c1_1 c1_2 c1_3 c2_0 c2_1 c2_2 c2_3 c3_0 c3_1 c3_2 c3_3
    have HB := Lib.hid (chain1 HB.out hb0)
    have Q1 := Lib.hid (Q1.out.below hb0 (Nat.le_refl _))
    have X1 := Lib.hid (X1.out.below hb0 (Nat.le_refl _))
    clear q1
    have Q2 := Lib.hid (Q2.out.below hb0 (Nat.le_refl _))
    have X2 := Lib.hid (X2.out.below hb0 (Nat.le_refl _))
    clear q2
    have Q3 := Lib.hid (Q3.out.below hb0 (Nat.le_refl _))
    have X3 := Lib.hid (X3.out.below hb0 (Nat.le_refl _))
    clear q3
    go_upto_region 7 with fail
    go_cut [93] from 80 to 93 (fun s93 wx => FalseB V5 s93 wx)
    case first =>
      obtain ⟨c1_0, c1_1, c1_2, c1_3⟩ := X1.out.cells
      obtain ⟨c2_0, c2_1, c2_2, c2_3⟩ := X2.out.cells
      obtain ⟨c3_0, c3_1, c3_2, c3_3⟩ := X3.out.cells
      by_cases hk0 : 0 < k
      · have e1 : decide (k ≤ 0) = false := by simpa using hk0
        go_wp2_with fail
        go_meet
        exact ⟨rfl, Below.refl _ _⟩
      · have e1 : decide (k ≤ 0) = true := by simpa using hk0
        by_cases hm0 : 0 < m2
        · have e2 : decide (m2 ≤ 0) = false := by simpa using hm0
          go_wp2_with fail
          refine (CYZ.out _ _ _ Q2.out Q3.out Zy.out Zz.out).mono ?_
          rintro e V6 ⟨rfl, hb⟩
          go_wp2_with fail
          go_meet
          exact ⟨rfl, hb⟩
        · have e2 : decide (m2 ≤ 0) = true := by simpa using hm0
          have e3 : decide (0 < m3) = false := by
            have h3 : k ≤ 0 := by omega
            have h4 : m2 ≤ 0 := by omega
            have := cmp_trans (x := x) (y := y) (z := z) (HK.out.symm ▸ h3) (HM2.out.symm ▸ h4)
            rw [HM3.out] at this
            simpa using this
          go_wp2_with fail
          refine (CYZ.out _ _ _ Q2.out Q3.out Zy.out Zz.out).mono ?_
          rintro e V6 ⟨rfl, hb⟩
          clear c1_0 c1_1 c1_2 c1_3 c2_0 c2_1 c2_2 c2_3 c3_0 c3_1 c3_2 c3_3
          have q1 := Q1.out.below hb (Nat.le_refl _)
          obtain ⟨c1_0, c1_1, c1_2, c1_3⟩ := (X1.out.below hb (Nat.le_refl _)).cells
          have q3 := Q3.out.below hb (Nat.le_refl _)
          obtain ⟨c3_0, c3_1, c3_2, c3_3⟩ := (X3.out.below hb (Nat.le_refl _)).cells
          have hb6 := hb
          clear hb
          go_wp2_with fail
          refine (CXZ.out _ _ _ q1 q3 Zx.out Zz.out).mono ?_
          rintro e V6b ⟨rfl, hb⟩
          have hb7 := chain1 hb6 hb
          clear hb
          go_wp2_with fail
          go_meet
          exact ⟨rfl, hb7⟩
    case rest =>
      obtain ⟨V7, hV7⟩ : ∃ W, W = wc := ⟨_, rfl⟩
      subst hV7
      obtain ⟨rfl, hb⟩ := hcut
      have HB := Lib.hid (chain1 HB.out hb)
      have Q1 := Lib.hid (Q1.out.below hb (Nat.le_refl _))
      have X1 := Lib.hid (X1.out.below hb (Nat.le_refl _))
      have Q2 := Lib.hid (Q2.out.below hb (Nat.le_refl _))
      have X2 := Lib.hid (X2.out.below hb (Nat.le_refl _))
      have Q3 := Lib.hid (Q3.out.below hb (Nat.le_refl _))
      have X3 := Lib.hid (X3.out.below hb (Nat.le_refl _))
      clear hb
      go_upto_region 9 with fail
      go_cut [11, 12] from 94 to 97 (fun s11 s12 wx => TwoB V7 ((x).floor : Rat) ((x).ceil : Rat) s11 s12 wx)
      case first =>
        have hb0 := Below.refl V7.heap.size V7
        obtain ⟨c1_0, c1_1, c1_2, c1_3⟩ := X1.out.cells
        have nx7 : n ≠ V7.heap.size := Nat.ne_of_lt (World.block_lt_of_cell? _ _ c1_0)
        have ny7 := nx7.symm
        have nz7 : n ≠ V7.heap.size + 1 := Nat.ne_of_lt (Nat.lt_succ_of_lt (World.block_lt_of_cell? _ _ c1_0))
        have nw7 := nz7.symm
        go_region_held3 (fun w' => w'.cell? ⟨n, 0, none⟩ = some (.bool s1) ∧ w'.cell? ⟨n, 1, none⟩ = some (u a1) ∧ w'.cell? ⟨n, 2, none⟩ = some (u b1) ∧ w'.cell? ⟨n, 3, none⟩ = some (.pointer p1)) (go_keep) (first | ((with_reducible refine (OFloor.out _ (x) _ (chain1 HB.out hb0.drew) (Q1.out.below hb0.drew (Nat.le_refl _)) Zx.out).mono ?_); rintro e V8 ⟨v5, rfl, q5, hb⟩; obtain ⟨s5, a5, b5, p5, rfl⟩ := q5.form; have hb1 := chain1 hb0.drew hb; have hs1 := hb1.size; clear hb; clear c1_0 c1_1 c1_2 c1_3; obtain ⟨c1_0, c1_1, c1_2, c1_3⟩ := (X1.out.below hb1 (Nat.le_refl _)).cells; have nx8 : n ≠ V8.heap.size := Nat.ne_of_lt (World.block_lt_of_cell? _ _ c1_0); have ny8 := nx8.symm; have nz8 : n ≠ V8.heap.size + 1 := Nat.ne_of_lt (Nat.lt_succ_of_lt (World.block_lt_of_cell? _ _ c1_0)); have nw8 := nz8.symm) | ((with_reducible refine (OFloor.out _ (x) _ (chain1 HB.out (al1 hb0).drew) (Q1.out.below (al1 hb0).drew (Nat.le_refl _)) Zx.out).mono ?_); rintro e V8 ⟨v5, rfl, q5, hb⟩; obtain ⟨s5, a5, b5, p5, rfl⟩ := q5.form; have hb1 := chain1 (al1 hb0).drew hb; have hs1 := hb1.size; have xA : Box V8 V7.heap.size (.bool false) (.int .u64 0) (.int .u64 0) (.pointer none) := blk1d hb; have eAC : V7.heap.size ≠ V8.heap.size := Nat.ne_of_lt (box_lt xA); have zA := xA.cells; obtain ⟨zA0, zA1, zA2, zA3⟩ := zA; have zAf0 := xA.frozen 0; have zAf1 := xA.frozen 1; have zAf2 := xA.frozen 2; have zAf3 := xA.frozen 3; have zlA := World.block_lt_of_cell? _ _ zA0; have znA := Nat.ne_of_lt zlA; clear hb; clear c1_0 c1_1 c1_2 c1_3; obtain ⟨c1_0, c1_1, c1_2, c1_3⟩ := (X1.out.below hb1 (Nat.le_refl _)).cells; have nx8 : n ≠ V8.heap.size := Nat.ne_of_lt (World.block_lt_of_cell? _ _ c1_0); have ny8 := nx8.symm; have nz8 : n ≠ V8.heap.size + 1 := Nat.ne_of_lt (Nat.lt_succ_of_lt (World.block_lt_of_cell? _ _ c1_0)); have nw8 := nz8.symm) | ((with_reducible refine (OFloor.out _ (x) _ (chain1 HB.out (al2 hb0).drew) (Q1.out.below (al2 hb0).drew (Nat.le_refl _)) Zx.out).mono ?_); rintro e V8 ⟨v5, rfl, q5, hb⟩; obtain ⟨s5, a5, b5, p5, rfl⟩ := q5.form; have hb1 := chain1 (al2 hb0).drew hb; have hs1 := hb1.size; have xA : Box V8 V7.heap.size (.bool false) (.int .u64 0) (.int .u64 0) (.pointer none) := (blk2d hb).1; have xB : Box V8 (V7.heap.size + 1) (.bool false) (.int .u64 0) (.int .u64 0) (.pointer none) := (blk2d hb).2; have zA := xA.cells; obtain ⟨zA0, zA1, zA2, zA3⟩ := zA; have zAf0 := xA.frozen 0; have zAf1 := xA.frozen 1; have zAf2 := xA.frozen 2; have zAf3 := xA.frozen 3; have zlA := World.block_lt_of_cell? _ _ zA0; have znA := Nat.ne_of_lt zlA; have zB := xB.cells; obtain ⟨zB0, zB1, zB2, zB3⟩ := zB; have zBf0 := xB.frozen 0; have zBf1 := xB.frozen 1; have zBf2 := xB.frozen 2; have zBf3 := xB.frozen 3; have zlB := World.block_lt_of_cell? _ _ zB0; have znB := Nat.ne_of_lt zlB; clear hb; clear c1_0 c1_1 c1_2 c1_3; obtain ⟨c1_0, c1_1, c1_2, c1_3⟩ := (X1.out.below hb1 (Nat.le_refl _)).cells; have nx8 : n ≠ V8.heap.size := Nat.ne_of_lt (World.block_lt_of_cell? _ _ c1_0); have ny8 := nx8.symm; have nz8 : n ≠ V8.heap.size + 1 := Nat.ne_of_lt (Nat.lt_succ_of_lt (World.block_lt_of_cell? _ _ c1_0)); have nw8 := nz8.symm) | ((with_reducible refine (OCeil.out _ (x) _ (chain1 HB.out hb1) (Q1.out.below hb1 (Nat.le_refl _)) Zx.out).mono ?_); rintro e V9 ⟨v6, rfl, q6, hb⟩; obtain ⟨s6, a6, b6, p6, rfl⟩ := q6.form; have q5 := q5.below (chain1 (Below.refl _ V8) hb) (Nat.le_refl _); have hb2 := chain1 hb1 hb; have hs2 := hb2.size; have hT : TwoIn V7 V9 ((x).floor : Rat) ((x).ceil : Rat) s5 s6 a5 b5 a6 b6 p5 p6 := ⟨q5, q6, hb2⟩; clear zA0 zA1 zA2 zA3 zAf0 zAf1 zAf2 zAf3; have xA := xA.below (chain1 (Below.refl _ V8) hb) (Nat.le_refl _); have zA := xA.cells; obtain ⟨zA0, zA1, zA2, zA3⟩ := zA; have zAf0 := xA.frozen 0; have zAf1 := xA.frozen 1; have zAf2 := xA.frozen 2; have zAf3 := xA.frozen 3; have zlA := World.block_lt_of_cell? _ _ zA0; have znA := Nat.ne_of_lt zlA; clear zB0 zB1 zB2 zB3 zBf0 zBf1 zBf2 zBf3; have xB := xB.below (chain1 (Below.refl _ V8) hb) (Nat.le_refl _); have zB := xB.cells; obtain ⟨zB0, zB1, zB2, zB3⟩ := zB; have zBf0 := xB.frozen 0; have zBf1 := xB.frozen 1; have zBf2 := xB.frozen 2; have zBf3 := xB.frozen 3; have zlB := World.block_lt_of_cell? _ _ zB0; have znB := Nat.ne_of_lt zlB; clear hb; clear c1_0 c1_1 c1_2 c1_3; obtain ⟨c1_0, c1_1, c1_2, c1_3⟩ := (X1.out.below hb2 (Nat.le_refl _)).cells; have nx9 : n ≠ V9.heap.size := Nat.ne_of_lt (World.block_lt_of_cell? _ _ c1_0); have ny9 := nx9.symm; have nz9 : n ≠ V9.heap.size + 1 := Nat.ne_of_lt (Nat.lt_succ_of_lt (World.block_lt_of_cell? _ _ c1_0)); have nw9 := nz9.symm) | ((with_reducible refine (OCeil.out _ (x) _ (chain1 HB.out (al1 hb1)) (Q1.out.below (al1 hb1) (Nat.le_refl _)) Zx.out).mono ?_); rintro e V9 ⟨v6, rfl, q6, hb⟩; obtain ⟨s6, a6, b6, p6, rfl⟩ := q6.form; have q5 := q5.below (chain1 (al1 (Below.refl _ V8)) hb) (Nat.le_refl _); have hb2 := chain1 (al1 hb1) hb; have hs2 := hb2.size; have hT : TwoIn V7 V9 ((x).floor : Rat) ((x).ceil : Rat) s5 s6 a5 b5 a6 b6 p5 p6 := ⟨q5, q6, hb2⟩; clear zA0 zA1 zA2 zA3 zAf0 zAf1 zAf2 zAf3; have xA := xA.below (chain1 (al1 (Below.refl _ V8)) hb) (Nat.le_refl _); have zA := xA.cells; obtain ⟨zA0, zA1, zA2, zA3⟩ := zA; have zAf0 := xA.frozen 0; have zAf1 := xA.frozen 1; have zAf2 := xA.frozen 2; have zAf3 := xA.frozen 3; have zlA := World.block_lt_of_cell? _ _ zA0; have znA := Nat.ne_of_lt zlA; have xC : Box V9 V8.heap.size (.bool false) (.int .u64 0) (.int .u64 0) (.pointer none) := blk1 hb; have zC := xC.cells; obtain ⟨zC0, zC1, zC2, zC3⟩ := zC; have zCf0 := xC.frozen 0; have zCf1 := xC.frozen 1; have zCf2 := xC.frozen 2; have zCf3 := xC.frozen 3; have zlC := World.block_lt_of_cell? _ _ zC0; have znC := Nat.ne_of_lt zlC; clear hb; clear c1_0 c1_1 c1_2 c1_3; obtain ⟨c1_0, c1_1, c1_2, c1_3⟩ := (X1.out.below hb2 (Nat.le_refl _)).cells; have nx9 : n ≠ V9.heap.size := Nat.ne_of_lt (World.block_lt_of_cell? _ _ c1_0); have ny9 := nx9.symm; have nz9 : n ≠ V9.heap.size + 1 := Nat.ne_of_lt (Nat.lt_succ_of_lt (World.block_lt_of_cell? _ _ c1_0)); have nw9 := nz9.symm) | ((with_reducible refine (OCeil.out _ (x) _ (chain1 HB.out hb1) (Q1.out.below hb1 (Nat.le_refl _)) Zx.out).mono ?_); rintro e V9 ⟨v6, rfl, q6, hb⟩; obtain ⟨s6, a6, b6, p6, rfl⟩ := q6.form; have q5 := q5.below (chain1 (Below.refl _ V8) hb) (Nat.le_refl _); have hb2 := chain1 hb1 hb; have hs2 := hb2.size; have hT : TwoIn V7 V9 ((x).floor : Rat) ((x).ceil : Rat) s5 s6 a5 b5 a6 b6 p5 p6 := ⟨q5, q6, hb2⟩; clear zA0 zA1 zA2 zA3 zAf0 zAf1 zAf2 zAf3; have xA := xA.below (chain1 (Below.refl _ V8) hb) (Nat.le_refl _); have zA := xA.cells; obtain ⟨zA0, zA1, zA2, zA3⟩ := zA; have zAf0 := xA.frozen 0; have zAf1 := xA.frozen 1; have zAf2 := xA.frozen 2; have zAf3 := xA.frozen 3; have zlA := World.block_lt_of_cell? _ _ zA0; have znA := Nat.ne_of_lt zlA; clear hb; clear c1_0 c1_1 c1_2 c1_3; obtain ⟨c1_0, c1_1, c1_2, c1_3⟩ := (X1.out.below hb2 (Nat.le_refl _)).cells; have nx9 : n ≠ V9.heap.size := Nat.ne_of_lt (World.block_lt_of_cell? _ _ c1_0); have ny9 := nx9.symm; have nz9 : n ≠ V9.heap.size + 1 := Nat.ne_of_lt (Nat.lt_succ_of_lt (World.block_lt_of_cell? _ _ c1_0)); have nw9 := nz9.symm) | ((with_reducible refine (OCeil.out _ (x) _ (chain1 HB.out (al2 hb1)) (Q1.out.below (al2 hb1) (Nat.le_refl _)) Zx.out).mono ?_); rintro e V9 ⟨v6, rfl, q6, hb⟩; obtain ⟨s6, a6, b6, p6, rfl⟩ := q6.form; have q5 := q5.below (chain1 (al2 (Below.refl _ V8)) hb) (Nat.le_refl _); have hb2 := chain1 (al2 hb1) hb; have hs2 := hb2.size; have hT : TwoIn V7 V9 ((x).floor : Rat) ((x).ceil : Rat) s5 s6 a5 b5 a6 b6 p5 p6 := ⟨q5, q6, hb2⟩; have xC : Box V9 V8.heap.size (.bool false) (.int .u64 0) (.int .u64 0) (.pointer none) := (blk2 hb).1; have xD : Box V9 (V8.heap.size + 1) (.bool false) (.int .u64 0) (.int .u64 0) (.pointer none) := (blk2 hb).2; have zC := xC.cells; obtain ⟨zC0, zC1, zC2, zC3⟩ := zC; have zCf0 := xC.frozen 0; have zCf1 := xC.frozen 1; have zCf2 := xC.frozen 2; have zCf3 := xC.frozen 3; have zlC := World.block_lt_of_cell? _ _ zC0; have znC := Nat.ne_of_lt zlC; have zD := xD.cells; obtain ⟨zD0, zD1, zD2, zD3⟩ := zD; have zDf0 := xD.frozen 0; have zDf1 := xD.frozen 1; have zDf2 := xD.frozen 2; have zDf3 := xD.frozen 3; have zlD := World.block_lt_of_cell? _ _ zD0; have znD := Nat.ne_of_lt zlD; clear hb; clear c1_0 c1_1 c1_2 c1_3; obtain ⟨c1_0, c1_1, c1_2, c1_3⟩ := (X1.out.below hb2 (Nat.le_refl _)).cells; have nx9 : n ≠ V9.heap.size := Nat.ne_of_lt (World.block_lt_of_cell? _ _ c1_0); have ny9 := nx9.symm; have nz9 : n ≠ V9.heap.size + 1 := Nat.ne_of_lt (Nat.lt_succ_of_lt (World.block_lt_of_cell? _ _ c1_0)); have nw9 := nz9.symm) | ((with_reducible refine (OCeil.out _ (x) _ (chain1 HB.out (al1 hb1)) (Q1.out.below (al1 hb1) (Nat.le_refl _)) Zx.out).mono ?_); rintro e V9 ⟨v6, rfl, q6, hb⟩; obtain ⟨s6, a6, b6, p6, rfl⟩ := q6.form; have q5 := q5.below (chain1 (al1 (Below.refl _ V8)) hb) (Nat.le_refl _); have hb2 := chain1 (al1 hb1) hb; have hs2 := hb2.size; have hT : TwoIn V7 V9 ((x).floor : Rat) ((x).ceil : Rat) s5 s6 a5 b5 a6 b6 p5 p6 := ⟨q5, q6, hb2⟩; have xC : Box V9 V8.heap.size (.bool false) (.int .u64 0) (.int .u64 0) (.pointer none) := blk1 hb; have zC := xC.cells; obtain ⟨zC0, zC1, zC2, zC3⟩ := zC; have zCf0 := xC.frozen 0; have zCf1 := xC.frozen 1; have zCf2 := xC.frozen 2; have zCf3 := xC.frozen 3; have zlC := World.block_lt_of_cell? _ _ zC0; have znC := Nat.ne_of_lt zlC; clear hb; clear c1_0 c1_1 c1_2 c1_3; obtain ⟨c1_0, c1_1, c1_2, c1_3⟩ := (X1.out.below hb2 (Nat.le_refl _)).cells; have nx9 : n ≠ V9.heap.size := Nat.ne_of_lt (World.block_lt_of_cell? _ _ c1_0); have ny9 := nx9.symm; have nz9 : n ≠ V9.heap.size + 1 := Nat.ne_of_lt (Nat.lt_succ_of_lt (World.block_lt_of_cell? _ _ c1_0)); have nw9 := nz9.symm) | ((with_reducible refine (OCeil.out _ (x) _ (chain1 HB.out hb1) (Q1.out.below hb1 (Nat.le_refl _)) Zx.out).mono ?_); rintro e V9 ⟨v6, rfl, q6, hb⟩; obtain ⟨s6, a6, b6, p6, rfl⟩ := q6.form; have q5 := q5.below (chain1 (Below.refl _ V8) hb) (Nat.le_refl _); have hb2 := chain1 hb1 hb; have hs2 := hb2.size; have hT : TwoIn V7 V9 ((x).floor : Rat) ((x).ceil : Rat) s5 s6 a5 b5 a6 b6 p5 p6 := ⟨q5, q6, hb2⟩; clear hb; clear c1_0 c1_1 c1_2 c1_3; obtain ⟨c1_0, c1_1, c1_2, c1_3⟩ := (X1.out.below hb2 (Nat.le_refl _)).cells; have nx9 : n ≠ V9.heap.size := Nat.ne_of_lt (World.block_lt_of_cell? _ _ c1_0); have ny9 := nx9.symm; have nz9 : n ≠ V9.heap.size + 1 := Nat.ne_of_lt (Nat.lt_succ_of_lt (World.block_lt_of_cell? _ _ c1_0)); have nw9 := nz9.symm) | fail)
        all_goals go_wp2_with fail
        all_goals go_meet
        all_goals (first
          | with_reducible exact two_old hT xA xB (Nat.ne_of_lt (Nat.lt_succ_self _)) (Nat.le_refl _) (Nat.le_succ _)
          | with_reducible exact two_old hT xB xA (Nat.ne_of_gt (Nat.lt_succ_self _)) (Nat.le_succ _) (Nat.le_refl _)
          | with_reducible exact two_old hT xA xC eAC (Nat.le_refl _) hs1
          | with_reducible exact two_old hT xC xA eAC.symm hs1 (Nat.le_refl _)
          | with_reducible exact two_old hT xC xD (Nat.ne_of_lt (Nat.lt_succ_self _)) hs1 (Nat.le_succ_of_le hs1)
          | with_reducible exact two_old hT xD xC (Nat.ne_of_gt (Nat.lt_succ_self _)) (Nat.le_succ_of_le hs1) hs1
          | with_reducible exact two_oldnew hT xA (Nat.le_refl _)
          | with_reducible exact two_oldnew hT xC hs1
          | with_reducible exact two_newold hT xA (Nat.le_refl _)
          | with_reducible exact two_newold hT xC hs1
          | with_reducible exact two_newold' hT xA (Nat.le_refl _)
          | with_reducible exact two_newold' hT xC hs1
          | with_reducible exact two_new hT
          | with_reducible exact two_new' hT
          | fail)
      case rest =>
        obtain ⟨V9, hV9⟩ : ∃ W, W = wc := ⟨_, rfl⟩
        subst hV9
        obtain ⟨m1, m2', s5, a5, b5, p5, s6, a6, b6, p6, rfl, rfl, hX5, hX6, hQ5, hQ6, hb⟩ := hcut
        have HB := Lib.hid (chain1 HB.out hb)
        have Q1 := Lib.hid (Q1.out.below hb (Nat.le_refl _))
        have X1 := Lib.hid (X1.out.below hb (Nat.le_refl _))
        have Q2 := Lib.hid (Q2.out.below hb (Nat.le_refl _))
        have X2 := Lib.hid (X2.out.below hb (Nat.le_refl _))
        have Q3 := Lib.hid (Q3.out.below hb (Nat.le_refl _))
        have X3 := Lib.hid (X3.out.below hb (Nat.le_refl _))
        have Q5 := Lib.hid hQ5
        have Q6 := Lib.hid hQ6
        have X5 := Lib.hid hX5
        have X6 := Lib.hid hX6
        clear hb hQ5 hQ6 hX5 hX6
        obtain ⟨c1_0, c1_1, c1_2, c1_3⟩ := X1.out.cells
        go_wp2_with fail
        refine (parts_q _ x V9 Q1.out).mono ?_
        rintro e V9b ⟨v7, v8, rfl, hq7, hq8, hb⟩
        obtain ⟨s7, a7, b7, p7, rfl⟩ := hq7.form
        obtain ⟨s8, a8, b8, p8, rfl⟩ := hq8.form
        have HB := Lib.hid (chain1 HB.out hb)
        clear c1_0 c1_1 c1_2 c1_3
        have Q1 := Lib.hid (Q1.out.below hb (Nat.le_refl _))
        have X1 := Lib.hid (X1.out.below hb (Nat.le_refl _))
        have Q5 := Lib.hid (Q5.out.below hb (Nat.le_refl _))
        have X5 := Lib.hid (X5.out.below hb (Nat.le_refl _))
        have Q6 := Lib.hid (Q6.out.below hb (Nat.le_refl _))
        have X6 := Lib.hid (X6.out.below hb (Nat.le_refl _))
        have Q7 := Lib.hid hq7
        have Q8 := Lib.hid hq8
        clear hb hq7 hq8
        go_upto_region 11 with fail
        obtain ⟨V10a, hW, hb, hX7, hs⟩ := nbox V9b V9b.heap.size rfl (.bool s7) (u a7) (u b7) (.pointer p7)
        rw [hW]; clear hW
        have HB := Lib.hid (chain1 HB.out hb)
        have Q1 := Lib.hid (Q1.out.below hb (Nat.le_refl _))
        have X1 := Lib.hid (X1.out.below hb (Nat.le_refl _))
        have Q5 := Lib.hid (Q5.out.below hb (Nat.le_refl _))
        have X5 := Lib.hid (X5.out.below hb (Nat.le_refl _))
        have Q6 := Lib.hid (Q6.out.below hb (Nat.le_refl _))
        have X6 := Lib.hid (X6.out.below hb (Nat.le_refl _))
        have Q7 := Lib.hid (Q7.out.below hb (Nat.le_refl _))
        have Q8 := Lib.hid (Q8.out.below hb (Nat.le_refl _))
        clear hb
        generalize V9b.heap.size = n7 at *
        obtain ⟨V10, hW, hb, hX8, hs'⟩ := nbox V10a (n7 + 1) hs (.bool s8) (u a8) (u b8) (.pointer p8)
        rw [hW]; clear hW
        have HB := Lib.hid (chain1 HB.out hb)
        have X7 := Lib.hid hX7
        have Q1 := Lib.hid (Q1.out.below hb (Nat.le_refl _))
        have X1 := Lib.hid (X1.out.below hb (Nat.le_refl _))
        have Q5 := Lib.hid (Q5.out.below hb (Nat.le_refl _))
        have X5 := Lib.hid (X5.out.below hb (Nat.le_refl _))
        have Q6 := Lib.hid (Q6.out.below hb (Nat.le_refl _))
        have X6 := Lib.hid (X6.out.below hb (Nat.le_refl _))
        have Q7 := Lib.hid (Q7.out.below hb (Nat.le_refl _))
        have X7 := Lib.hid (X7.out.below hb (Nat.le_refl _))
        have Q8 := Lib.hid (Q8.out.below hb (Nat.le_refl _))
        have X8 := Lib.hid hX8
        clear hb hX7 hX8 hs hs'
        obtain ⟨c5_0, c5_1, c5_2, c5_3⟩ := X5.out.cells
        obtain ⟨c1_0, c1_1, c1_2, c1_3⟩ := X1.out.cells
        go_wp2_with fail
        refine (CWF.out _ _ _ Q5.out Q1.out ZLLxRfloorRatR.out Zx.out).mono ?_
        rintro e V11 ⟨rfl, hb⟩
        have HB := Lib.hid (chain1 HB.out hb)
        clear c5_0 c5_1 c5_2 c5_3 c1_0 c1_1 c1_2 c1_3
        have Q1 := Lib.hid (Q1.out.below hb (Nat.le_refl _))
        have X1 := Lib.hid (X1.out.below hb (Nat.le_refl _))
        have Q5 := Lib.hid (Q5.out.below hb (Nat.le_refl _))
        have X5 := Lib.hid (X5.out.below hb (Nat.le_refl _))
        have Q6 := Lib.hid (Q6.out.below hb (Nat.le_refl _))
        have X6 := Lib.hid (X6.out.below hb (Nat.le_refl _))
        have Q7 := Lib.hid (Q7.out.below hb (Nat.le_refl _))
        have X7 := Lib.hid (X7.out.below hb (Nat.le_refl _))
        have Q8 := Lib.hid (Q8.out.below hb (Nat.le_refl _))
        have X8 := Lib.hid (X8.out.below hb (Nat.le_refl _))
        clear hb
        go_upto_region 12 with fail
        have hb0 := Below.refl V11.heap.size V11
        have q1 := Q1.out
        obtain ⟨c1_0, c1_1, c1_2, c1_3⟩ := X1.out.cells
        have q5 := Q5.out
        obtain ⟨c5_0, c5_1, c5_2, c5_3⟩ := X5.out.cells
        have q6 := Q6.out
        obtain ⟨c6_0, c6_1, c6_2, c6_3⟩ := X6.out.cells
        have q8 := Q8.out
        obtain ⟨c8_0, c8_1, c8_2, c8_3⟩ := X8.out.cells
        go_region_held3 (fun w' => (w'.cell? ⟨n, 0, none⟩ = some (.bool s1) ∧ w'.cell? ⟨n, 1, none⟩ = some (u a1) ∧ w'.cell? ⟨n, 2, none⟩ = some (u b1) ∧ w'.cell? ⟨n, 3, none⟩ = some (.pointer p1)) ∧ (w'.cell? ⟨m1, 0, none⟩ = some (.bool s5) ∧ w'.cell? ⟨m1, 1, none⟩ = some (u a5) ∧ w'.cell? ⟨m1, 2, none⟩ = some (u b5) ∧ w'.cell? ⟨m1, 3, none⟩ = some (.pointer p5)) ∧ (w'.cell? ⟨m2', 0, none⟩ = some (.bool s6) ∧ w'.cell? ⟨m2', 1, none⟩ = some (u a6) ∧ w'.cell? ⟨m2', 2, none⟩ = some (u b6) ∧ w'.cell? ⟨m2', 3, none⟩ = some (.pointer p6)) ∧ (w'.cell? ⟨n7 + 1, 0, none⟩ = some (.bool s8) ∧ w'.cell? ⟨n7 + 1, 1, none⟩ = some (u a8) ∧ w'.cell? ⟨n7 + 1, 2, none⟩ = some (u b8) ∧ w'.cell? ⟨n7 + 1, 3, none⟩ = some (.pointer p8))) (go_keep) (first | ((with_reducible refine (C108.out _ _ _ q5.drewn q1.drewn ZLLxRfloorRatR.out Zx.out).mono ?_); rintro e V12 ⟨rfl, hb⟩; replace hb0 : Below V11.heap.size V11 V12 := chain hb0 hb; (try (replace t_113 := t_113.below hb (Nat.le_refl _))); (try (replace t_114 := t_114.below hb (Nat.le_refl _))); (try (replace t_128 := t_128.below hb (Nat.le_refl _))); clear hb; clear c1_0 c1_1 c1_2 c1_3 c5_0 c5_1 c5_2 c5_3 c6_0 c6_1 c6_2 c6_3 c8_0 c8_1 c8_2 c8_3; replace q1 := Q1.out.below hb0 (Nat.le_refl _); obtain ⟨c1_0, c1_1, c1_2, c1_3⟩ := (X1.out.below hb0 (Nat.le_refl _)).cells; replace q5 := Q5.out.below hb0 (Nat.le_refl _); obtain ⟨c5_0, c5_1, c5_2, c5_3⟩ := (X5.out.below hb0 (Nat.le_refl _)).cells; replace q6 := Q6.out.below hb0 (Nat.le_refl _); obtain ⟨c6_0, c6_1, c6_2, c6_3⟩ := (X6.out.below hb0 (Nat.le_refl _)).cells; replace q8 := Q8.out.below hb0 (Nat.le_refl _); obtain ⟨c8_0, c8_1, c8_2, c8_3⟩ := (X8.out.below hb0 (Nat.le_refl _)).cells) | ((with_reducible refine (OOne.out _).mono ?_); rintro e V12 ⟨v_t_113, rfl, t_113, hb⟩; obtain ⟨s_t_113, a_t_113, b_t_113, p_t_113, rfl⟩ := t_113.form; replace hb0 : Below V11.heap.size V11 V12 := chain1 hb0 hb; (try (replace t_114 := t_114.below hb (Nat.le_refl _))); (try (replace t_128 := t_128.below hb (Nat.le_refl _))); clear hb; clear c1_0 c1_1 c1_2 c1_3 c5_0 c5_1 c5_2 c5_3 c6_0 c6_1 c6_2 c6_3 c8_0 c8_1 c8_2 c8_3; replace q1 := Q1.out.below hb0 (Nat.le_refl _); obtain ⟨c1_0, c1_1, c1_2, c1_3⟩ := (X1.out.below hb0 (Nat.le_refl _)).cells; replace q5 := Q5.out.below hb0 (Nat.le_refl _); obtain ⟨c5_0, c5_1, c5_2, c5_3⟩ := (X5.out.below hb0 (Nat.le_refl _)).cells; replace q6 := Q6.out.below hb0 (Nat.le_refl _); obtain ⟨c6_0, c6_1, c6_2, c6_3⟩ := (X6.out.below hb0 (Nat.le_refl _)).cells; replace q8 := Q8.out.below hb0 (Nat.le_refl _); obtain ⟨c8_0, c8_1, c8_2, c8_3⟩ := (X8.out.below hb0 (Nat.le_refl _)).cells) | ((with_reducible refine (OPlus.out _ _ (((x).floor : Rat)) (1) _ (chain1 HB.out hb0) q5 t_113 ZLLxRfloorRatR.out Z1.out).mono ?_); rintro e V12 ⟨v_t_114, rfl, t_114, hb⟩; obtain ⟨s_t_114, a_t_114, b_t_114, p_t_114, rfl⟩ := t_114.form; replace hb0 : Below V11.heap.size V11 V12 := chain1 hb0 hb; clear t_113; (try (replace t_128 := t_128.below hb (Nat.le_refl _))); clear hb; clear c1_0 c1_1 c1_2 c1_3 c5_0 c5_1 c5_2 c5_3 c6_0 c6_1 c6_2 c6_3 c8_0 c8_1 c8_2 c8_3; replace q1 := Q1.out.below hb0 (Nat.le_refl _); obtain ⟨c1_0, c1_1, c1_2, c1_3⟩ := (X1.out.below hb0 (Nat.le_refl _)).cells; replace q5 := Q5.out.below hb0 (Nat.le_refl _); obtain ⟨c5_0, c5_1, c5_2, c5_3⟩ := (X5.out.below hb0 (Nat.le_refl _)).cells; replace q6 := Q6.out.below hb0 (Nat.le_refl _); obtain ⟨c6_0, c6_1, c6_2, c6_3⟩ := (X6.out.below hb0 (Nat.le_refl _)).cells; replace q8 := Q8.out.below hb0 (Nat.le_refl _); obtain ⟨c8_0, c8_1, c8_2, c8_3⟩ := (X8.out.below hb0 (Nat.le_refl _)).cells) | ((with_reducible refine (C115.out _ _ _ q1 t_114 Zx.out ZLLLxRfloorRatRP1R.out).mono ?_); rintro e V12 ⟨rfl, hb⟩; replace hb0 : Below V11.heap.size V11 V12 := chain1 hb0 hb; (try (replace t_113 := t_113.below hb (Nat.le_refl _))); clear t_114; (try (replace t_128 := t_128.below hb (Nat.le_refl _))); clear hb; clear c1_0 c1_1 c1_2 c1_3 c5_0 c5_1 c5_2 c5_3 c6_0 c6_1 c6_2 c6_3 c8_0 c8_1 c8_2 c8_3; replace q1 := Q1.out.below hb0 (Nat.le_refl _); obtain ⟨c1_0, c1_1, c1_2, c1_3⟩ := (X1.out.below hb0 (Nat.le_refl _)).cells; replace q5 := Q5.out.below hb0 (Nat.le_refl _); obtain ⟨c5_0, c5_1, c5_2, c5_3⟩ := (X5.out.below hb0 (Nat.le_refl _)).cells; replace q6 := Q6.out.below hb0 (Nat.le_refl _); obtain ⟨c6_0, c6_1, c6_2, c6_3⟩ := (X6.out.below hb0 (Nat.le_refl _)).cells; replace q8 := Q8.out.below hb0 (Nat.le_refl _); obtain ⟨c8_0, c8_1, c8_2, c8_3⟩ := (X8.out.below hb0 (Nat.le_refl _)).cells) | ((with_reducible refine (C121.out _ _ _ q6 q1 ZLLxRceilRatR.out Zx.out).mono ?_); rintro e V12 ⟨rfl, hb⟩; replace hb0 : Below V11.heap.size V11 V12 := chain1 hb0 hb; (try (replace t_113 := t_113.below hb (Nat.le_refl _))); (try (replace t_114 := t_114.below hb (Nat.le_refl _))); (try (replace t_128 := t_128.below hb (Nat.le_refl _))); clear hb; clear c1_0 c1_1 c1_2 c1_3 c5_0 c5_1 c5_2 c5_3 c6_0 c6_1 c6_2 c6_3 c8_0 c8_1 c8_2 c8_3; replace q1 := Q1.out.below hb0 (Nat.le_refl _); obtain ⟨c1_0, c1_1, c1_2, c1_3⟩ := (X1.out.below hb0 (Nat.le_refl _)).cells; replace q5 := Q5.out.below hb0 (Nat.le_refl _); obtain ⟨c5_0, c5_1, c5_2, c5_3⟩ := (X5.out.below hb0 (Nat.le_refl _)).cells; replace q6 := Q6.out.below hb0 (Nat.le_refl _); obtain ⟨c6_0, c6_1, c6_2, c6_3⟩ := (X6.out.below hb0 (Nat.le_refl _)).cells; replace q8 := Q8.out.below hb0 (Nat.le_refl _); obtain ⟨c8_0, c8_1, c8_2, c8_3⟩ := (X8.out.below hb0 (Nat.le_refl _)).cells) | ((with_reducible refine (OMinus.out _ _ (((x).ceil : Rat)) (1) _ (chain1 HB.out hb0) q6 t_113 ZLLxRceilRatR.out Z1.out).mono ?_); rintro e V12 ⟨v_t_128, rfl, t_128, hb⟩; obtain ⟨s_t_128, a_t_128, b_t_128, p_t_128, rfl⟩ := t_128.form; replace hb0 : Below V11.heap.size V11 V12 := chain1 hb0 hb; clear t_113; (try (replace t_114 := t_114.below hb (Nat.le_refl _))); clear hb; clear c1_0 c1_1 c1_2 c1_3 c5_0 c5_1 c5_2 c5_3 c6_0 c6_1 c6_2 c6_3 c8_0 c8_1 c8_2 c8_3; replace q1 := Q1.out.below hb0 (Nat.le_refl _); obtain ⟨c1_0, c1_1, c1_2, c1_3⟩ := (X1.out.below hb0 (Nat.le_refl _)).cells; replace q5 := Q5.out.below hb0 (Nat.le_refl _); obtain ⟨c5_0, c5_1, c5_2, c5_3⟩ := (X5.out.below hb0 (Nat.le_refl _)).cells; replace q6 := Q6.out.below hb0 (Nat.le_refl _); obtain ⟨c6_0, c6_1, c6_2, c6_3⟩ := (X6.out.below hb0 (Nat.le_refl _)).cells; replace q8 := Q8.out.below hb0 (Nat.le_refl _); obtain ⟨c8_0, c8_1, c8_2, c8_3⟩ := (X8.out.below hb0 (Nat.le_refl _)).cells) | ((with_reducible refine (C129.out _ _ _ q1 t_128 Zx.out ZLLLxRceilRatRM1R.out).mono ?_); rintro e V12 ⟨rfl, hb⟩; replace hb0 : Below V11.heap.size V11 V12 := chain1 hb0 hb; (try (replace t_113 := t_113.below hb (Nat.le_refl _))); (try (replace t_114 := t_114.below hb (Nat.le_refl _))); clear t_128; clear hb; clear c1_0 c1_1 c1_2 c1_3 c5_0 c5_1 c5_2 c5_3 c6_0 c6_1 c6_2 c6_3 c8_0 c8_1 c8_2 c8_3; replace q1 := Q1.out.below hb0 (Nat.le_refl _); obtain ⟨c1_0, c1_1, c1_2, c1_3⟩ := (X1.out.below hb0 (Nat.le_refl _)).cells; replace q5 := Q5.out.below hb0 (Nat.le_refl _); obtain ⟨c5_0, c5_1, c5_2, c5_3⟩ := (X5.out.below hb0 (Nat.le_refl _)).cells; replace q6 := Q6.out.below hb0 (Nat.le_refl _); obtain ⟨c6_0, c6_1, c6_2, c6_3⟩ := (X6.out.below hb0 (Nat.le_refl _)).cells; replace q8 := Q8.out.below hb0 (Nat.le_refl _); obtain ⟨c8_0, c8_1, c8_2, c8_3⟩ := (X8.out.below hb0 (Nat.le_refl _)).cells) | ((with_reducible refine (C136.out _ _ _ q6 q1 ZLLxRceilRatR.out Zx.out).mono ?_); rintro e V12 ⟨rfl, hb⟩; replace hb0 : Below V11.heap.size V11 V12 := chain1 hb0 hb; (try (replace t_113 := t_113.below hb (Nat.le_refl _))); (try (replace t_114 := t_114.below hb (Nat.le_refl _))); (try (replace t_128 := t_128.below hb (Nat.le_refl _))); clear hb; clear c1_0 c1_1 c1_2 c1_3 c5_0 c5_1 c5_2 c5_3 c6_0 c6_1 c6_2 c6_3 c8_0 c8_1 c8_2 c8_3; replace q1 := Q1.out.below hb0 (Nat.le_refl _); obtain ⟨c1_0, c1_1, c1_2, c1_3⟩ := (X1.out.below hb0 (Nat.le_refl _)).cells; replace q5 := Q5.out.below hb0 (Nat.le_refl _); obtain ⟨c5_0, c5_1, c5_2, c5_3⟩ := (X5.out.below hb0 (Nat.le_refl _)).cells; replace q6 := Q6.out.below hb0 (Nat.le_refl _); obtain ⟨c6_0, c6_1, c6_2, c6_3⟩ := (X6.out.below hb0 (Nat.le_refl _)).cells; replace q8 := Q8.out.below hb0 (Nat.le_refl _); obtain ⟨c8_0, c8_1, c8_2, c8_3⟩ := (X8.out.below hb0 (Nat.le_refl _)).cells) | ((with_reducible refine (C143.out _ _ _ q8 t_113 ZLLLxRdenIntRRatR.out Z1.out).mono ?_); rintro e V12 ⟨rfl, hb⟩; replace hb0 : Below V11.heap.size V11 V12 := chain1 hb0 hb; clear t_113; (try (replace t_114 := t_114.below hb (Nat.le_refl _))); (try (replace t_128 := t_128.below hb (Nat.le_refl _))); clear hb; clear c1_0 c1_1 c1_2 c1_3 c5_0 c5_1 c5_2 c5_3 c6_0 c6_1 c6_2 c6_3 c8_0 c8_1 c8_2 c8_3; replace q1 := Q1.out.below hb0 (Nat.le_refl _); obtain ⟨c1_0, c1_1, c1_2, c1_3⟩ := (X1.out.below hb0 (Nat.le_refl _)).cells; replace q5 := Q5.out.below hb0 (Nat.le_refl _); obtain ⟨c5_0, c5_1, c5_2, c5_3⟩ := (X5.out.below hb0 (Nat.le_refl _)).cells; replace q6 := Q6.out.below hb0 (Nat.le_refl _); obtain ⟨c6_0, c6_1, c6_2, c6_3⟩ := (X6.out.below hb0 (Nat.le_refl _)).cells; replace q8 := Q8.out.below hb0 (Nat.le_refl _); obtain ⟨c8_0, c8_1, c8_2, c8_3⟩ := (X8.out.below hb0 (Nat.le_refl _)).cells) | fail)
        clear c1_0 c1_1 c1_2 c1_3 c5_0 c5_1 c5_2 c5_3 c6_0 c6_1 c6_2 c6_3 c8_0 c8_1 c8_2 c8_3
        have HB := Lib.hid (chain1 HB.out hb0)
        have Q1 := Lib.hid (Q1.out.below hb0 (Nat.le_refl _))
        have X1 := Lib.hid (X1.out.below hb0 (Nat.le_refl _))
        clear q1
        have Q5 := Lib.hid (Q5.out.below hb0 (Nat.le_refl _))
        have X5 := Lib.hid (X5.out.below hb0 (Nat.le_refl _))
        clear q5
        have Q6 := Lib.hid (Q6.out.below hb0 (Nat.le_refl _))
        have X6 := Lib.hid (X6.out.below hb0 (Nat.le_refl _))
        clear q6
        have Q8 := Lib.hid (Q8.out.below hb0 (Nat.le_refl _))
        have X8 := Lib.hid (X8.out.below hb0 (Nat.le_refl _))
        clear q8
        have Q7 := Lib.hid (Q7.out.below hb0 (Nat.le_refl _))
        have X7 := Lib.hid (X7.out.below hb0 (Nat.le_refl _))
        clear hb0
        obtain ⟨c7_0, c7_1, c7_2, c7_3⟩ := X7.out.cells
        obtain ⟨c8_0, c8_1, c8_2, c8_3⟩ := X8.out.cells
        go_wp2_with fail
        refine (OOver.out _ _ (((x).num : Rat)) ((((x).den : Int) : Rat)) _ (den_num x) HB.out Q7.out Q8.out ZLLxRnumRatR.out ZLLLxRdenIntRRatR.out).mono ?_
        rintro e V13 ⟨v9, rfl, hq9, hb⟩
        rw [num_over_den] at hq9
        obtain ⟨s9, a9, b9, p9, rfl⟩ := hq9.form
        have HB := Lib.hid (chain1 HB.out hb)
        clear c7_0 c7_1 c7_2 c7_3 c8_0 c8_1 c8_2 c8_3
        have Q1 := Lib.hid (Q1.out.below hb (Nat.le_refl _))
        have X1 := Lib.hid (X1.out.below hb (Nat.le_refl _))
        have Q7 := Lib.hid (Q7.out.below hb (Nat.le_refl _))
        have X7 := Lib.hid (X7.out.below hb (Nat.le_refl _))
        have Q8 := Lib.hid (Q8.out.below hb (Nat.le_refl _))
        have X8 := Lib.hid (X8.out.below hb (Nat.le_refl _))
        clear hb
        have Q9 := Lib.hid hq9
        clear hq9
        go_upto_region 15 with fail
        obtain ⟨V14, hW, hb, hX9, hs⟩ := nbox V13 V13.heap.size rfl (.bool s9) (u a9) (u b9) (.pointer p9)
        rw [hW]; clear hW
        have HB := Lib.hid (chain1 HB.out hb)
        have Q1 := Lib.hid (Q1.out.below hb (Nat.le_refl _))
        have X1 := Lib.hid (X1.out.below hb (Nat.le_refl _))
        have Q7 := Lib.hid (Q7.out.below hb (Nat.le_refl _))
        have X7 := Lib.hid (X7.out.below hb (Nat.le_refl _))
        have Q8 := Lib.hid (Q8.out.below hb (Nat.le_refl _))
        have X8 := Lib.hid (X8.out.below hb (Nat.le_refl _))
        have Q9 := Lib.hid (Q9.out.below hb (Nat.le_refl _))
        have X9 := Lib.hid hX9
        clear hb hX9 hs
        generalize V13.heap.size = n9 at *
        have hb0 := Below.refl V14.heap.size V14
        have q1 := Q1.out
        obtain ⟨c1_0, c1_1, c1_2, c1_3⟩ := X1.out.cells
        have q7 := Q7.out
        obtain ⟨c7_0, c7_1, c7_2, c7_3⟩ := X7.out.cells
        have q8 := Q8.out
        obtain ⟨c8_0, c8_1, c8_2, c8_3⟩ := X8.out.cells
        have q9 := Q9.out
        obtain ⟨c9_0, c9_1, c9_2, c9_3⟩ := X9.out.cells
        go_region_held3 (fun w' => (w'.cell? ⟨n, 0, none⟩ = some (.bool s1) ∧ w'.cell? ⟨n, 1, none⟩ = some (u a1) ∧ w'.cell? ⟨n, 2, none⟩ = some (u b1) ∧ w'.cell? ⟨n, 3, none⟩ = some (.pointer p1)) ∧ (w'.cell? ⟨n7, 0, none⟩ = some (.bool s7) ∧ w'.cell? ⟨n7, 1, none⟩ = some (u a7) ∧ w'.cell? ⟨n7, 2, none⟩ = some (u b7) ∧ w'.cell? ⟨n7, 3, none⟩ = some (.pointer p7)) ∧ (w'.cell? ⟨n7 + 1, 0, none⟩ = some (.bool s8) ∧ w'.cell? ⟨n7 + 1, 1, none⟩ = some (u a8) ∧ w'.cell? ⟨n7 + 1, 2, none⟩ = some (u b8) ∧ w'.cell? ⟨n7 + 1, 3, none⟩ = some (.pointer p8)) ∧ (w'.cell? ⟨n9, 0, none⟩ = some (.bool s9) ∧ w'.cell? ⟨n9, 1, none⟩ = some (u a9) ∧ w'.cell? ⟨n9, 2, none⟩ = some (u b9) ∧ w'.cell? ⟨n9, 3, none⟩ = some (.pointer p9))) (go_keep) (first | ((with_reducible refine (C157.out _ _ _ q9.drewn q1.drewn Zx.out Zx.out).mono ?_); rintro e V15 ⟨rfl, hb⟩; replace hb0 : Below V14.heap.size V14 V15 := chain hb0 hb; (try (replace t_166 := t_166.below hb (Nat.le_refl _))); clear hb; clear c1_0 c1_1 c1_2 c1_3 c7_0 c7_1 c7_2 c7_3 c8_0 c8_1 c8_2 c8_3 c9_0 c9_1 c9_2 c9_3; replace q1 := Q1.out.below hb0 (Nat.le_refl _); obtain ⟨c1_0, c1_1, c1_2, c1_3⟩ := (X1.out.below hb0 (Nat.le_refl _)).cells; replace q7 := Q7.out.below hb0 (Nat.le_refl _); obtain ⟨c7_0, c7_1, c7_2, c7_3⟩ := (X7.out.below hb0 (Nat.le_refl _)).cells; replace q8 := Q8.out.below hb0 (Nat.le_refl _); obtain ⟨c8_0, c8_1, c8_2, c8_3⟩ := (X8.out.below hb0 (Nat.le_refl _)).cells; replace q9 := Q9.out.below hb0 (Nat.le_refl _); obtain ⟨c9_0, c9_1, c9_2, c9_3⟩ := (X9.out.below hb0 (Nat.le_refl _)).cells) | ((with_reducible refine (C161.out _ _ q8).mono ?_); rintro e V15 ⟨rfl, hb⟩; replace hb0 : Below V14.heap.size V14 V15 := chain1 hb0 hb; (try (replace t_166 := t_166.below hb (Nat.le_refl _))); clear hb; clear c1_0 c1_1 c1_2 c1_3 c7_0 c7_1 c7_2 c7_3 c8_0 c8_1 c8_2 c8_3 c9_0 c9_1 c9_2 c9_3; replace q1 := Q1.out.below hb0 (Nat.le_refl _); obtain ⟨c1_0, c1_1, c1_2, c1_3⟩ := (X1.out.below hb0 (Nat.le_refl _)).cells; replace q7 := Q7.out.below hb0 (Nat.le_refl _); obtain ⟨c7_0, c7_1, c7_2, c7_3⟩ := (X7.out.below hb0 (Nat.le_refl _)).cells; replace q8 := Q8.out.below hb0 (Nat.le_refl _); obtain ⟨c8_0, c8_1, c8_2, c8_3⟩ := (X8.out.below hb0 (Nat.le_refl _)).cells; replace q9 := Q9.out.below hb0 (Nat.le_refl _); obtain ⟨c9_0, c9_1, c9_2, c9_3⟩ := (X9.out.below hb0 (Nat.le_refl _)).cells) | ((with_reducible refine (OFloor.out _ (((x).num : Rat)) _ (chain1 HB.out hb0) q7 ZLLxRnumRatR.out).mono ?_); rintro e V15 ⟨v_t_166, rfl, t_166, hb⟩; rw [ELLLLxRnumRatRRfloorRatR.out] at t_166; obtain ⟨s_t_166, a_t_166, b_t_166, p_t_166, rfl⟩ := t_166.form; replace hb0 : Below V14.heap.size V14 V15 := chain1 hb0 hb; clear hb; clear c1_0 c1_1 c1_2 c1_3 c7_0 c7_1 c7_2 c7_3 c8_0 c8_1 c8_2 c8_3 c9_0 c9_1 c9_2 c9_3; replace q1 := Q1.out.below hb0 (Nat.le_refl _); obtain ⟨c1_0, c1_1, c1_2, c1_3⟩ := (X1.out.below hb0 (Nat.le_refl _)).cells; replace q7 := Q7.out.below hb0 (Nat.le_refl _); obtain ⟨c7_0, c7_1, c7_2, c7_3⟩ := (X7.out.below hb0 (Nat.le_refl _)).cells; replace q8 := Q8.out.below hb0 (Nat.le_refl _); obtain ⟨c8_0, c8_1, c8_2, c8_3⟩ := (X8.out.below hb0 (Nat.le_refl _)).cells; replace q9 := Q9.out.below hb0 (Nat.le_refl _); obtain ⟨c9_0, c9_1, c9_2, c9_3⟩ := (X9.out.below hb0 (Nat.le_refl _)).cells) | ((with_reducible refine (C168.out _ _ _ t_166 q7 ZLLxRnumRatR.out ZLLxRnumRatR.out).mono ?_); rintro e V15 ⟨rfl, hb⟩; replace hb0 : Below V14.heap.size V14 V15 := chain1 hb0 hb; clear t_166; clear hb; clear c1_0 c1_1 c1_2 c1_3 c7_0 c7_1 c7_2 c7_3 c8_0 c8_1 c8_2 c8_3 c9_0 c9_1 c9_2 c9_3; replace q1 := Q1.out.below hb0 (Nat.le_refl _); obtain ⟨c1_0, c1_1, c1_2, c1_3⟩ := (X1.out.below hb0 (Nat.le_refl _)).cells; replace q7 := Q7.out.below hb0 (Nat.le_refl _); obtain ⟨c7_0, c7_1, c7_2, c7_3⟩ := (X7.out.below hb0 (Nat.le_refl _)).cells; replace q8 := Q8.out.below hb0 (Nat.le_refl _); obtain ⟨c8_0, c8_1, c8_2, c8_3⟩ := (X8.out.below hb0 (Nat.le_refl _)).cells; replace q9 := Q9.out.below hb0 (Nat.le_refl _); obtain ⟨c9_0, c9_1, c9_2, c9_3⟩ := (X9.out.below hb0 (Nat.le_refl _)).cells) | ((with_reducible refine (HKn.out _ (chain1 HB.out hb0)).mono ?_); rintro e V15 ⟨rfl, hb⟩; replace hb0 : Below V14.heap.size V14 V15 := chain1 hb0 hb; (try (replace t_166 := t_166.below hb (Nat.le_refl _))); clear hb; clear c1_0 c1_1 c1_2 c1_3 c7_0 c7_1 c7_2 c7_3 c8_0 c8_1 c8_2 c8_3 c9_0 c9_1 c9_2 c9_3; replace q1 := Q1.out.below hb0 (Nat.le_refl _); obtain ⟨c1_0, c1_1, c1_2, c1_3⟩ := (X1.out.below hb0 (Nat.le_refl _)).cells; replace q7 := Q7.out.below hb0 (Nat.le_refl _); obtain ⟨c7_0, c7_1, c7_2, c7_3⟩ := (X7.out.below hb0 (Nat.le_refl _)).cells; replace q8 := Q8.out.below hb0 (Nat.le_refl _); obtain ⟨c8_0, c8_1, c8_2, c8_3⟩ := (X8.out.below hb0 (Nat.le_refl _)).cells; replace q9 := Q9.out.below hb0 (Nat.le_refl _); obtain ⟨c9_0, c9_1, c9_2, c9_3⟩ := (X9.out.below hb0 (Nat.le_refl _)).cells) | fail)
        have HB := Lib.hid (chain1 HB.out hb0)
        go_wp2_with fail
        exact bodyPost_ret (v := .bool true) (by simp [results, Tryz.results10, go_sem]) rfl ⟨rfl, HB.out⟩
end Go.Proofs.YtojploidgagmgaaGreatDoor

/- ExactOrder: the statement, out of the walk. -/
namespace Go.Proofs.YtojploidgagmgaaGreatDoor
open Go Go.RowKit Go.Proofs Lim
open Go.ChangeShapes Go.WideShapes Go.ChangeAt Go.ChangeMaps

namespace lawExactOrder

set_option maxRecDepth 100000 in
theorem contract (H : Type) (enc : TypeId × Value → H) (W : World) (base : Nat) (args : Array Value) (ds gs : List (DataW H)) (before : List MemPlace)
    (hval : ∀ (j : Nat) t v, Tryz.f10.params[j]? = some t → args[j]? = some v → Value.okWide Tryz.prog W .any base t v)
    (hW : DataW.Whole enc Tryz.prog Tryz.f10.params.toList Rows.exactOrderSpec.vars false W args.toList ds gs before) (hG : Gr W) :
    Calls Tryz.prog 10 args W fun e W' => ∃ v, e = .returned v ∧ Rows.exactOrderSpec.post enc Tryz.prog Tryz.f10 false true false false W args v W' := by
  have hW' := hW
  obtain ⟨p, q, hA0, hV, rfl, hfz, hnd⟩ := hW
  have hA : DataW.TrodAll enc Tryz.prog W 0 (fun _ => true) true Tryz.f10.params.toList args.toList ds p := hA0
  rw [Tryz.params10] at hA hval
  obtain ⟨v0, vs0, d0, ds0, p0, q0, hargs0, rfl, rfl, h0, r0⟩ := trodAll_cons hA
  obtain ⟨v1, vs1, d1, ds1, p1, q1, hargs1, rfl, rfl, h1, r1⟩ := trodAll_cons r0
  obtain ⟨v2, vs2, d2, ds2, p2, q2, hargs2, rfl, rfl, h2, r2⟩ := trodAll_cons r1
  obtain ⟨rfl, rfl, rfl⟩ := trodAll_nil r2
  obtain rfl : args = #[v0, v1, v2] := by cases args; simp_all
  obtain ⟨rfl, rfl⟩ := trodVars_none hV
  obtain ⟨s0, rfl, rfl, rfl, hs0⟩ := open_string Tryz.underlying9 (hval 0 9 v0 rfl rfl) h0
  obtain ⟨s1, rfl, rfl, rfl, hs1⟩ := open_string Tryz.underlying9 (hval 1 9 v1 rfl rfl) h1
  obtain ⟨s2, rfl, rfl, rfl, hs2⟩ := open_string Tryz.underlying9 (hval 2 9 v2 rfl rfl) h2
  clear hA0
  have walk := order_walk s0.data.toList s1.data.toList s2.data.toList W  hG
  refine walk.mono fun e W' ⟨he, hb⟩ => ?_
  subst he
  refine ⟨_, rfl, _, _, _, [], [], [], hW', ?_, ?_, ?_, hb.frame _, fun h => by cases h⟩
  · exact trodAll_cons_mk (shut_bool Tryz.underlying4 _) trodAll_mk0
  · exact trodAll_cons_mk (shut_string Tryz.underlying9 hs0) (trodAll_cons_mk (shut_string Tryz.underlying9 hs1) (trodAll_cons_mk (shut_string Tryz.underlying9 hs2) (trodAll_mk0)))
  · trivial

theorem reads (os : Os) {H : Type} (enc : TypeId × Value → H) : ∃ places, DataW.whole enc Tryz.prog ((World.doorLaid Tryz.prog 400 os).forCall (fun _ _ => 0) ⟨#[], #[.string ⟨#[]⟩, .string ⟨#[]⟩, .string ⟨#[]⟩], []⟩).memory Tryz.f10.params.toList Rows.exactOrderSpec.vars false #[Value.string ⟨#[]⟩, Value.string ⟨#[]⟩, Value.string ⟨#[]⟩].toList 8 = some ([.lit (.string []), .lit (.string []), .lit (.string [])], [], places) :=
  ⟨[], by kernel_rfl⟩

set_option maxRecDepth 100000 in
theorem lifted (os : Os) (started : os.Started) (H : Type) (enc : TypeId × Value → H) (F : Stop.Interp) :
    ReturnsInHanded {} Tryz.checked os 10 .any ((OpenSpec.ofChange Rows.exactOrderSpec).preRow enc Tryz.prog Tryz.f10 Rows.exactOrderRow.domain false Rows.exactOrderRow.laid) (((OpenSpec.ofChange Rows.exactOrderSpec).at F).post enc Tryz.prog Tryz.f10 false true false false) := by
  obtain ⟨places, hx⟩ := reads os enc
  refine returnsInHanded_of_row (C := Tryz.checked) (s := OpenSpec.ofChange Rows.exactOrderSpec) own started (by kernel_rfl) Tryz.func10
    (witness_row_atRef (enc := enc) (C := Tryz.checked) false (World.doorLaid Tryz.prog 400 os) #[Value.string ⟨#[]⟩, Value.string ⟨#[]⟩, Value.string ⟨#[]⟩] rfl (by kernel_rfl) (by kernel_rfl) (by kernel_rfl)
      (OpenSpec.preRow_of_cond 8 hx (by kernel_rfl) (fun k hk => by cases hk) (by kernel_rfl) (door_met os _))) ?_
  intro W base args ds gs before hval hW _ _ _ hL hS _
  exact contract H enc W base args ds gs before hval hW (gr_of_laid hL hS)

theorem said : Rows.ExactOrderSaid :=
  OpenClaim.holds_of_cond 10 Tryz.f10 rfl rfl rfl rfl rfl rfl rfl ⟨rfl, rfl, rfl, rfl, rfl⟩ rfl rfl rfl rfl rfl (by kernel_rfl) Tryz.func10 (by kernel_rfl)
    (of_decide_eq_true (by kernel_rfl)) (by unfold Func.isWrapper; first | (rw [if_pos (by decide +kernel)]; kernel_rfl) | (rw [if_neg (by decide +kernel)]; exact ⟨rfl, rfl⟩))
    (fun os started H enc _ F => by rw [OpenClaim.pre_eq_preRow]; exact lifted os started H enc F)

theorem plain (f : FuncId) (fn : Func) (hf : Tryz.pinned.checked.prog.funcNamed "voussoir/voussoirlaw01.ExactOrder" = some f) (hfn : Tryz.pinned.checked.prog.funcs[f]? = some fn) :
    true = Tryz.pinned.checked.prog.looks [] ∧ ∀ (j : Nat) t, fn.params[j]? = some t → Tryz.pinned.checked.prog.wantsStandIn t = false := by
  obtain rfl : f = 10 := Option.some.inj ((show Tryz.prog.funcNamed "voussoir/voussoirlaw01.ExactOrder" = some 10 by kernel_rfl).symm.trans hf) |>.symm
  obtain rfl : fn = Tryz.f10 := (Option.some.inj (Tryz.func10.symm.trans hfn)).symm
  refine ⟨by kernel_rfl, fun j t ht => ?_⟩
  rw [Tryz.params10] at ht
  have hm : t ∈ [9, 9, 9] := by simpa using Array.mem_of_getElem? ht
  have hall : ([9, 9, 9].all fun u => !Tryz.prog.wantsStandIn u) = true := by kernel_rfl
  exact (show Tryz.prog.wantsStandIn t = false by simpa using List.all_eq_true.1 hall t hm)

/-- The statement. -/
theorem card : Rows.ExactOrderCardSaid :=
  Claim7.holds_tied_plain_at .later [] _ _ _ _ said (fun _ h => by cases h) (by kernel_rfl) (fun _ h => by cases h) exactOrder_row_tie rfl ⟨rfl, rfl⟩ (by kernel_rfl) rfl plain (by kernel_rfl)
#print axioms card

end lawExactOrder
end Go.Proofs.YtojploidgagmgaaGreatDoor
