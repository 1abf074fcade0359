/- Package exact, part 5: what its functions answer, as laws on the numbers that their values stand for (SpBase SpAround SpSort SpHas SpWith SpUnder SpUnder1 SpSquare SpQuad SpQuadr KnownMath KnownBox Known LawNum). -/
import Derived.Test.YtojploidgagmgaaGreatDoorJ4
import Derived.KernelRfl
set_option linter.unusedVariables false
set_option linter.unusedSimpArgs false

/- Spans in memory, and lists of numbers. -/
namespace Go.Proofs.YtojploidgagmgaaGreatDoor
open Go Go.RowKit Go.Proofs Lim

/-- A value stands for the two numbers of a span, in this order. -/
def IsS (w : World) (v : Value) (lo hi : Rat) : Prop := ∃ s1 a1 b1 p1 s2 a2 b2 p2, v = .agg #[.bool s1, u a1, u b1, .pointer p1, .bool s2, u a2, u b2, .pointer p2] ∧
    IsQ w (.agg #[.bool s1, u a1, u b1, .pointer p1]) lo ∧ IsQ w (.agg #[.bool s2, u a2, u b2, .pointer p2]) hi

theorem IsS.below {w w' : World} {v : Value} {lo hi : Rat} {k : Nat} (h : IsS w v lo hi) (hb : Below k w w') (hk : w.heap.size ≤ k) : IsS w' v lo hi := by
  obtain ⟨s1, a1, b1, p1, s2, a2, b2, p2, hv, h1, h2⟩ := h
  exact ⟨s1, a1, b1, p1, s2, a2, b2, p2, hv, h1.below hb hk, h2.below hb hk⟩

/-- What a call leaves that returns a span. -/
def SpNew (w : World) (lo hi : Rat) (e : Ending) (w' : World) : Prop := ∃ v, e = .returned v ∧ IsS w' v lo hi ∧ Below w.heap.size w w'

/-- A box of numbers. -/
def NBox (W : World) (R : Nat) : Prop := ∃ (cs : Array Value) (t : TypeId) (fr : Nat × Nat), W.heap[R]? = some (.cells cs t fr) ∧ t ≠ 23 ∧ ∀ x, cs[0]? = some x → ∃ s, x = .bool s

theorem NBox.of_block {W W' : World} {R : Nat} (h : NBox W R) (hb : W'.heap[R]? = W.heap[R]?) : NBox W' R := by
  obtain ⟨cs, t, fr, hR, hz⟩ := h
  exact ⟨cs, t, fr, hb.trans hR, hz⟩

theorem IsNat.other {W W' : World} {R : Nat} {v : Value} {n : Nat} (hR : NBox W R) (h : IsNat W v n) (ho : Only R W W') : IsNat W' v n := by
  obtain ⟨cs, t, fr, hb, ht, _⟩ := hR
  obtain ⟨xs, ⟨⟨ao, c, rfl, h1, h2, hr⟩, ok, typ⟩, htr, hv⟩ := h
  refine ⟨xs, ⟨⟨ao, c, rfl, h1, h2, fun hn => ?_⟩, ok, typ.other hb ht ho⟩, htr, hv⟩
  obtain ⟨b, off, rfl, row⟩ := hr hn
  refine ⟨b, off, rfl, ho.row ?_ row⟩
  intro e
  obtain ⟨cs', fr', hc⟩ := typ ⟨b, off, none⟩ _ _ rfl hn
  rw [show (⟨b, off, none⟩ : Addr).block = R from e, hb] at hc
  injection hc with hc
  injection hc with _ hc
  exact ht hc

theorem Num.other {W W' : World} {R : Nat} {v : Value} {neg : Bool} {n d : Nat} (hR : NBox W R) (h : Num W v neg n d) (ho : Only R W W') : Num W' v neg n d := by
  cases h with
  | low l hv hd hn hdB => exact .low l hv hd hn hdB
  | wide b x y hv hx hy h1 h2 hB h0 hd =>
    have hb : b ≠ R := by
      intro e
      subst e
      obtain ⟨_, _, _, rfl, _⟩ := h1.form
      obtain ⟨cs, t, fr, hb, _, hz⟩ := hR
      rw [World.cell?, hb] at hx
      obtain ⟨s, e⟩ := hz _ hx
      cases e
    exact .wide b x y hv ((ho.cell (p := ⟨b, 0, none⟩) hb).trans hx) ((ho.cell (p := ⟨b, 1, none⟩) hb).trans hy) (h1.other hR ho) (h2.other hR ho) hB h0 hd

theorem IsQ.other {W W' : World} {R : Nat} {v : Value} {r : Rat} (hR : NBox W R) (h : IsQ W v r) (ho : Only R W W') : IsQ W' v r := Num.other hR h ho

theorem IsS.other {W W' : World} {R : Nat} {v : Value} {lo hi : Rat} (hR : NBox W R) (h : IsS W v lo hi) (ho : Only R W W') : IsS W' v lo hi := by
  obtain ⟨s1, a1, b1, p1, s2, a2, b2, p2, hv, h1, h2⟩ := h
  exact ⟨s1, a1, b1, p1, s2, a2, b2, p2, hv, Num.other hR h1 ho, Num.other hR h2 ho⟩

/-- The box of a span. -/
def Box8 (W : World) (b : Nat) (c0 c1 c2 c3 c4 c5 c6 c7 : Value) : Prop := W.heap[b]? = some (.cells #[c0, c1, c2, c3, c4, c5, c6, c7] 66 (0, 0))

/-- A result's box, of a span. -/
def ZBox8 (W : World) (b : Nat) : Prop := Box8 W b (.bool false) (.int .u64 0) (.int .u64 0) (.pointer none) (.bool false) (.int .u64 0) (.int .u64 0) (.pointer none)

theorem Box8.of_block {W W' : World} {b : Nat} {c0 c1 c2 c3 c4 c5 c6 c7 : Value} (h : Box8 W b c0 c1 c2 c3 c4 c5 c6 c7) (hb : W'.heap[b]? = W.heap[b]?) : Box8 W' b c0 c1 c2 c3 c4 c5 c6 c7 := hb.trans h
theorem Box8.lt {W : World} {b : Nat} {c0 c1 c2 c3 c4 c5 c6 c7 : Value} (h : Box8 W b c0 c1 c2 c3 c4 c5 c6 c7) : b < W.heap.size := (Array.getElem?_eq_some_iff.1 h).1
theorem Box8.below {W W' : World} {b k : Nat} {c0 c1 c2 c3 c4 c5 c6 c7 : Value} (h : Box8 W b c0 c1 c2 c3 c4 c5 c6 c7) (hb : Below k W W') (hk : W.heap.size ≤ k) : Box8 W' b c0 c1 c2 c3 c4 c5 c6 c7 :=
  h.of_block (hb.block b (Nat.lt_of_lt_of_le h.lt hk))
theorem Box8.cells {W : World} {b : Nat} {c0 c1 c2 c3 c4 c5 c6 c7 : Value} (h : Box8 W b c0 c1 c2 c3 c4 c5 c6 c7) :
    W.cell? ⟨b, 0, none⟩ = some c0 ∧ W.cell? ⟨b, 1, none⟩ = some c1 ∧ W.cell? ⟨b, 2, none⟩ = some c2 ∧ W.cell? ⟨b, 3, none⟩ = some c3 ∧
    W.cell? ⟨b, 4, none⟩ = some c4 ∧ W.cell? ⟨b, 5, none⟩ = some c5 ∧ W.cell? ⟨b, 6, none⟩ = some c6 ∧ W.cell? ⟨b, 7, none⟩ = some c7 := by
  unfold Box8 at h
  simp [World.cell?, h]
theorem Box8.frozen {W : World} {b : Nat} {c0 c1 c2 c3 c4 c5 c6 c7 : Value} (h : Box8 W b c0 c1 c2 c3 c4 c5 c6 c7) (i : Nat) : W.frozen? ⟨b, i, none⟩ = false := by
  unfold Box8 at h
  simp [World.frozen?, h]
theorem Box8.nbox {W : World} {b : Nat} {s : Bool} {c1 c2 c3 c4 c5 c6 c7 : Value} (h : Box8 W b (.bool s) c1 c2 c3 c4 c5 c6 c7) : NBox W b :=
  ⟨_, _, _, h, by decide, fun x hx => ⟨s, by simpa using hx.symm⟩⟩
theorem Box.nbox {W : World} {b : Nat} {s : Bool} {c1 c2 c3 : Value} (h : Box W b (.bool s) c1 c2 c3) : NBox W b :=
  ⟨_, _, _, h, by decide, fun x hx => ⟨s, by simpa using hx.symm⟩⟩
theorem Box8.new (w : World) (c0 c1 c2 c3 c4 c5 c6 c7 : Value) : Box8 (w.alloc (.cells #[c0, c1, c2, c3, c4, c5, c6, c7] 66)) w.heap.size c0 c1 c2 c3 c4 c5 c6 c7 := heap_alloc_new w _

theorem setCell_block {W : World} {b o : Nat} {v : Value} {cs : Array Value} {t : TypeId} (h : W.heap[b]? = some (.cells cs t (0, 0))) : (W.setCell ⟨b, o, none⟩ v).heap[b]? = some (.cells (cs.setIfInBounds o v) t (0, 0)) := by
  simp only [World.setCell, Array.getElem?_modify, if_pos, h]
  rfl

/-- The four stores of a number into a span's lower end. -/
theorem Box8.setLow {W : World} {b : Nat} {c0 c1 c2 c3 c4 c5 c6 c7 : Value} (h : Box8 W b c0 c1 c2 c3 c4 c5 c6 c7) (d0 d1 d2 d3 : Value) :
    Box8 ((((W.setCell ⟨b, 0, none⟩ d0).setCell ⟨b, 1, none⟩ d1).setCell ⟨b, 2, none⟩ d2).setCell ⟨b, 3, none⟩ d3) b d0 d1 d2 d3 c4 c5 c6 c7 := by
  have := setCell_block (o := 3) (v := d3) (setCell_block (o := 2) (v := d2) (setCell_block (o := 1) (v := d1) (setCell_block (o := 0) (v := d0) h)))
  exact this
theorem Box8.setHigh {W : World} {b : Nat} {c0 c1 c2 c3 c4 c5 c6 c7 : Value} (h : Box8 W b c0 c1 c2 c3 c4 c5 c6 c7) (d4 d5 d6 d7 : Value) :
    Box8 ((((W.setCell ⟨b, 4, none⟩ d4).setCell ⟨b, 5, none⟩ d5).setCell ⟨b, 6, none⟩ d6).setCell ⟨b, 7, none⟩ d7) b c0 c1 c2 c3 d4 d5 d6 d7 := by
  have := setCell_block (o := 7) (v := d7) (setCell_block (o := 6) (v := d6) (setCell_block (o := 5) (v := d5) (setCell_block (o := 4) (v := d4) h)))
  exact this
theorem only4 (W : World) (b i : Nat) (d0 d1 d2 d3 : Value) : Only b W ((((W.setCell ⟨b, i, none⟩ d0).setCell ⟨b, i + 1, none⟩ d1).setCell ⟨b, i + 2, none⟩ d2).setCell ⟨b, i + 3, none⟩ d3) :=
  ((((Only.refl b W).set i d0).set (i + 1) d1).set (i + 2) d2).set (i + 3) d3
theorem only8 (W : World) (b : Nat) (d0 d1 d2 d3 d4 d5 d6 d7 : Value) : Only b W ((((((((W.setCell ⟨b, 0, none⟩ d0).setCell ⟨b, 1, none⟩ d1).setCell ⟨b, 2, none⟩ d2).setCell ⟨b, 3, none⟩ d3).setCell ⟨b, 4, none⟩ d4).setCell ⟨b, 5, none⟩ d5).setCell ⟨b, 6, none⟩ d6).setCell ⟨b, 7, none⟩ d7) :=
  ((((((((Only.refl b W).set 0 d0).set 1 d1).set 2 d2).set 3 d3).set 4 d4).set 5 d5).set 6 d6).set 7 d7

/-- A span that is returned from its box. -/
theorem SpNew.stored {w W : World} {R : Nat} {v : Value} {lo hi : Rat} (hR : NBox W R) (h : IsS W v lo hi) (hb : Below w.heap.size w W) (hw : w.heap.size ≤ R) (d0 d1 d2 d3 d4 d5 d6 d7 : Value) :
    SpNew w lo hi (.returned v) ((((((((W.setCell ⟨R, 0, none⟩ d0).setCell ⟨R, 1, none⟩ d1).setCell ⟨R, 2, none⟩ d2).setCell ⟨R, 3, none⟩ d3).setCell ⟨R, 4, none⟩ d4).setCell ⟨R, 5, none⟩ d5).setCell ⟨R, 6, none⟩ d6).setCell ⟨R, 7, none⟩ d7) :=
  ⟨v, rfl, h.other hR (only8 W R d0 d1 d2 d3 d4 d5 d6 d7), hb.trans ((only8 W R d0 d1 d2 d3 d4 d5 d6 d7).below hw)⟩

/-- The four cells of a number in a row of numbers. -/
def QAt (w : World) (b i : Nat) (v : Value) : Prop := ∃ s a c p, v = .agg #[.bool s, u a, u c, .pointer p] ∧
  w.cell? ⟨b, i, none⟩ = some (.bool s) ∧ w.cell? ⟨b, i + 1, none⟩ = some (u a) ∧ w.cell? ⟨b, i + 2, none⟩ = some (u c) ∧ w.cell? ⟨b, i + 3, none⟩ = some (.pointer p)

theorem QAt.lt {w : World} {b i : Nat} {v : Value} (h : QAt w b i v) : b < w.heap.size := by
  obtain ⟨_, _, _, _, _, h, _⟩ := h
  exact World.block_lt_of_cell? w _ h
theorem QAt.below {w w' : World} {b i k : Nat} {v : Value} (h : QAt w b i v) (hb : Below k w w') (hk : w.heap.size ≤ k) : QAt w' b i v := by
  have hlt := Nat.lt_of_lt_of_le h.lt hk
  obtain ⟨s, a, c, p, hv, h0, h1, h2, h3⟩ := h
  exact ⟨s, a, c, p, hv, (hb.cell (p := ⟨b, i, none⟩) hlt).trans h0, (hb.cell (p := ⟨b, i + 1, none⟩) hlt).trans h1, (hb.cell (p := ⟨b, i + 2, none⟩) hlt).trans h2, (hb.cell (p := ⟨b, i + 3, none⟩) hlt).trans h3⟩

/-- A slice of numbers. -/
def QSl (w : World) (v : Value) (rs : List Rat) : Prop := ∃ ao cap, v = .slice ao rs.length cap ∧ rs.length ≤ cap ∧ (cap : Int) ≤ 9223372036854775807 ∧
  (0 < rs.length → ∃ b off, ao = some ⟨b, off, none⟩ ∧ ∀ i, i < rs.length → ∃ x, QAt w b (off + i * 4) x ∧ IsQ w x (rs[i]?.getD 0))

theorem QSl.below {w w' : World} {v : Value} {rs : List Rat} {k : Nat} (h : QSl w v rs) (hb : Below k w w') (hk : w.heap.size ≤ k) : QSl w' v rs := by
  obtain ⟨ao, cap, hv, h1, h2, h3⟩ := h
  refine ⟨ao, cap, hv, h1, h2, fun hn => ?_⟩
  obtain ⟨b, off, ha, h4⟩ := h3 hn
  refine ⟨b, off, ha, fun i hi => ?_⟩
  obtain ⟨x, hx, hq⟩ := h4 i hi
  exact ⟨x, hx.below hb hk, hq.below hb hk⟩

/-- The least and the greatest of some numbers. -/
def lowOf (r : Rat) (rs : List Rat) : Rat := rs.foldl (fun a x => if x < a then x else a) r
def highOf (r : Rat) (rs : List Rat) : Rat := rs.foldl (fun a x => if a < x then x else a) r

theorem lowOf_snoc (r : Rat) (rs : List Rat) (x : Rat) : lowOf r (rs ++ [x]) = if x < lowOf r rs then x else lowOf r rs := by unfold lowOf; rw [List.foldl_append]; rfl
theorem highOf_snoc (r : Rat) (rs : List Rat) (x : Rat) : highOf r (rs ++ [x]) = if highOf r rs < x then x else highOf r rs := by unfold highOf; rw [List.foldl_append]; rfl

theorem lowOf_mem (r : Rat) (rs : List Rat) : lowOf r rs = r ∨ lowOf r rs ∈ rs := by
  induction rs generalizing r with
  | nil => exact .inl rfl
  | cons x rs ih =>
    show lowOf (if x < r then x else r) rs = r ∨ _
    rcases ih (if x < r then x else r) with h | h
    · rw [show lowOf r (x :: rs) = lowOf (if x < r then x else r) rs from rfl, h]
      split
      · exact .inr (by simp)
      · exact .inl rfl
    · exact .inr (List.mem_cons_of_mem _ h)
theorem highOf_mem (r : Rat) (rs : List Rat) : highOf r rs = r ∨ highOf r rs ∈ rs := by
  induction rs generalizing r with
  | nil => exact .inl rfl
  | cons x rs ih =>
    show highOf (if r < x then x else r) rs = r ∨ _
    rcases ih (if r < x then x else r) with h | h
    · rw [show highOf r (x :: rs) = highOf (if r < x then x else r) rs from rfl, h]
      split
      · exact .inr (by simp)
      · exact .inl rfl
    · exact .inr (List.mem_cons_of_mem _ h)

end Go.Proofs.YtojploidgagmgaaGreatDoor

/- around: the least span that has some numbers. -/
namespace Go.Proofs.YtojploidgagmgaaGreatDoor
open Go Go.RowKit Go.Proofs Lim

theorem not_lt_of_lt {a b : Rat} (h : a < b) : ¬ b < a := Rat.not_lt.2 (Rat.le_of_lt h)

/-- What the loop of around knows. -/
def ArRel (w : World) (n0 : Nat) (r : Rat) (rs : List Rat) (i : Value) (wr : World) : Prop :=
  ∃ k s1 a1 b1 p1 s2 a2 b2 p2, i = .int .i64 ((k : Nat) : Int) ∧ k ≤ rs.length ∧ Box8 wr (n0 + 1 + 1) (.bool s1) (u a1) (u b1) (.pointer p1) (.bool s2) (u a2) (u b2) (.pointer p2) ∧
    IsQ w (.agg #[.bool s1, u a1, u b1, .pointer p1]) (lowOf r (rs.take k)) ∧ IsQ w (.agg #[.bool s2, u a2, u b2, .pointer p2]) (highOf r (rs.take k)) ∧
    ZBox8 wr (n0 + 1) ∧ Below w.heap.size w wr

set_option maxHeartbeats 1000000 in
theorem around_any (v sl : Value) (r : Rat) (rs : List Rat) (k : Nat) (w : World) (h : IsQ w v r) (hs : QSl w sl rs) (z : Siz r k) (zs : ∀ x ∈ rs, Siz x k) (hk : (k : Int) ≤ 1073741824) (hl : (rs.length : Int) ≤ 1048576) :
    Calls Tryz.prog 112 #[v, sl] w (SpNew w (lowOf r rs) (highOf r rs)) := by
  have HQ := Lib.hid h
  have hzl : ∀ j, Siz (lowOf r (rs.take j)) k := fun j => by
    rcases lowOf_mem r (rs.take j) with e | e
    · rw [e]; exact z
    · exact zs _ (List.mem_of_mem_take e)
  have hzh : ∀ j, Siz (highOf r (rs.take j)) k := fun j => by
    rcases highOf_mem r (rs.take j) with e | e
    · rw [e]; exact z
    · exact zs _ (List.mem_of_mem_take e)
  have HZL := Lib.hid hzl
  have HZH := Lib.hid hzh
  have HZS := Lib.hid zs
  obtain ⟨s0, a0, b0, p0, rfl⟩ := h.form
  obtain ⟨ao, cap, rfl, hc1, hc2, hr⟩ := hs
  have HR := Lib.hid hr
  clear h hr hzl hzh zs z
  go_enter Tryz.func112, Tryz.ntmps112
  go_wp2_with fail
  have hb1 := below1 w (.cells #[.bool s0, u a0, u b0, .pointer p0] 26)
  have hz1 := Box8.new (w.alloc (.cells #[.bool s0, u a0, u b0, .pointer p0] 26)) (.bool false) (.int .u64 0) (.int .u64 0) (.pointer none) (.bool false) (.int .u64 0) (.int .u64 0) (.pointer none)
  have hs1 : (w.alloc (.cells #[.bool s0, u a0, u b0, .pointer p0] 26)).heap.size = w.heap.size + 1 := World.size_alloc ..
  rw [hs1] at hz1
  have hb2 := below1 (w.alloc (.cells #[.bool s0, u a0, u b0, .pointer p0] 26)) (.cells #[.bool false, .int .u64 0, .int .u64 0, .pointer none, .bool false, .int .u64 0, .int .u64 0, .pointer none] 66)
  have hs2 : ((w.alloc (.cells #[.bool s0, u a0, u b0, .pointer p0] 26)).alloc (.cells #[.bool false, .int .u64 0, .int .u64 0, .pointer none, .bool false, .int .u64 0, .int .u64 0, .pointer none] 66)).heap.size = w.heap.size + 1 + 1 := by rw [World.size_alloc, hs1]
  have hb12 := chain1 hb1 hb2
  obtain ⟨W1, hW1⟩ : ∃ W1, (w.alloc (.cells #[.bool s0, u a0, u b0, .pointer p0] 26)).alloc (.cells #[.bool false, .int .u64 0, .int .u64 0, .pointer none, .bool false, .int .u64 0, .int .u64 0, .pointer none] 66) = W1 := ⟨_, rfl⟩
  rw [hW1] at hz1 hs2 hb12 ⊢
  have hb3 := below1 W1 (.cells #[.bool s0, u a0, u b0, .pointer p0, .bool s0, u a0, u b0, .pointer p0] 66)
  have hx := Box8.new W1 (.bool s0) (u a0) (u b0) (.pointer p0) (.bool s0) (u a0) (u b0) (.pointer p0)
  rw [hs2] at hx
  have H0 : Hid (ArRel w w.heap.size r rs (.int .i64 0) (W1.alloc (.cells #[.bool s0, u a0, u b0, .pointer p0, .bool s0, u a0, u b0, .pointer p0] 66))) := by
    refine ⟨0, s0, a0, b0, p0, s0, a0, b0, p0, rfl, Nat.zero_le _, hx, HQ.out, HQ.out, ?_, chain1 hb12 hb3⟩
    exact Box8.below hz1 hb3 (Nat.le_refl _)
  clear hW1 hb1 hb2 hb3 hb12 hz1 hs1 hs2 hx
  generalize W1.alloc (.cells #[.bool s0, u a0, u b0, .pointer p0, .bool s0, u a0, u b0, .pointer p0] 66) = W2 at *
  go_loopw [13] (fun i wr => Hid (ArRel w w.heap.size r rs i wr)) (fun i _ => rs.length - (intOf i).toNat)
  case atStart => exact H0
  case round =>
    clear H0 HQ
    obtain ⟨j, s1, a1, b1, p1, s2, a2, b2, p2, rfl, hj, hX, hQ1, hQ2, hZ, hB⟩ := hrel.out
    clear hrel
    by_cases hlt : j < rs.length
    · obtain ⟨b, off, rfl, hel⟩ := HR.out (by omega)
      obtain ⟨x, hxat, hxq⟩ := hel j hlt
      have hsn : rs.take (j + 1) = rs.take j ++ [rs[j]?.getD 0] := by
        rw [List.take_succ_eq_append_getElem hlt, List.getElem?_eq_getElem hlt]; rfl
      have hzx := HZS.out (rs[j]?.getD 0) (by rw [List.getElem?_eq_getElem hlt]; exact List.getElem_mem hlt)
      have e1 := lowOf_snoc r (rs.take j) (rs[j]?.getD 0)
      have e2 := highOf_snoc r (rs.take j) (rs[j]?.getD 0)
      rw [← hsn] at e1 e2
      have zl := HZL.out j
      have zh := HZH.out j
      generalize rs[j]?.getD 0 = t at *
      have hxw := hxat.below hB (Nat.le_refl _)
      obtain ⟨sx, ax, bx, px, rfl, k0, k1, k2, k3⟩ := hxw
      have HC := Lib.hid (fun s a b p m W (hm : IsQ w (.agg #[.bool s, u a, u b, .pointer p]) m) (zm : Siz m k) (hW : Below w.heap.size w W) => cmp_q _ _ t m k W (hxq.below hW (Nat.le_refl _)) (hm.below hW (Nat.le_refl _)) hzx zm hk)
      have HX := Lib.hid hX
      have HZ := Lib.hid hZ
      have HB := Lib.hid hB
      have HQ1 := Lib.hid hQ1
      have HQ2 := Lib.hid hQ2
      have HQx := Lib.hid hxq
      have E1 := Lib.hid e1
      have E2 := Lib.hid e2
      have Zl := Lib.hid zl
      have Zh := Lib.hid zh
      clear hX hZ hB hQ1 hQ2 hxat hxq e1 e2 zl zh hzx hsn hel HR HZL HZH HZS
      generalize lowOf r (rs.take j) = lo at *
      generalize highOf r (rs.take j) = hi at *
      -- ROUND
      obtain ⟨c0, c1, c2, c3, c4, c5, c6, c7⟩ := HX.out.cells
      have ltz : w.heap.size + 1 + 1 < wr.heap.size := HX.out.lt
      go_wp2_with fail
      obtain ⟨W3, hW, hb, ⟨g0, g1, g2, g3⟩⟩ := box1 wr (.bool sx) (u ax) (u bx) (.pointer px); rw [← hW]; clear hW
      have HX := Lib.hid (HX.out.below hb (Nat.le_refl _))
      have HZ := Lib.hid (Box8.below HZ.out hb (Nat.le_refl _))
      have HB := Lib.hid (chain1 HB.out hb)
      have m1 : ¬ wr.heap.size = w.heap.size + 1 + 1 := by omega
      have m2 : ¬ w.heap.size + 1 + 1 = wr.heap.size := by omega
      have n5 : w.heap.size + 1 ≠ w.heap.size + 1 + 1 := by omega
      clear c0 c1 c2 c3 c4 c5 c6 c7
      clear hb ltz k0 k1 k2 k3
      generalize wr.heap.size = bX at *
      refine (HC.out s1 a1 b1 p1 lo W3 HQ1.out Zl.out HB.out).mono ?_
      rintro e W4 ⟨rfl, hb⟩
      (have hh := boxq (b := bX) hb g0 g1 g2 g3; clear g0 g1 g2 g3; obtain ⟨g0, g1, g2, g3⟩ := hh)
      have HX := Lib.hid (HX.out.below hb (Nat.le_refl _))
      have HZ := Lib.hid (Box8.below HZ.out hb (Nat.le_refl _))
      have HB := Lib.hid (chain1 HB.out hb)
      clear hb
      obtain ⟨c0, c1, c2, c3, c4, c5, c6, c7⟩ := HX.out.cells
      have zf0 := HX.out.frozen 0
      have zf1 := HX.out.frozen 1
      have zf2 := HX.out.frozen 2
      have zf3 := HX.out.frozen 3
      have zf4 := HX.out.frozen 4
      have zf5 := HX.out.frozen 5
      have zf6 := HX.out.frozen 6
      have zf7 := HX.out.frozen 7
      by_cases hcl : t < lo
      · have hcn : cmpQ t lo < 0 := by unfold cmpQ; rw [if_pos hcl]; decide
        have H1 := Lib.hid hcl
        clear hcl
        generalize cmpQ t lo = c at *
        go_wp2_with fail
        have hX' := HX.out.setLow (.bool sx) (u ax) (u bx) (.pointer px)
        have hO' := only4 W4 (w.heap.size + 1 + 1) 0 (.bool sx) (u ax) (u bx) (.pointer px)
        have hZ' : ZBox8 _ (w.heap.size + 1) := Box8.of_block HZ.out (hO'.block (w.heap.size + 1) n5)
        have hB' := HB.out.trans (hO'.below (show w.heap.size ≤ w.heap.size + 1 + 1 by omega))
        have i0 := (hO'.cell (p := ⟨bX, 0, none⟩) m1).trans g0
        have i1 := (hO'.cell (p := ⟨bX, 1, none⟩) m1).trans g1
        have i2 := (hO'.cell (p := ⟨bX, 2, none⟩) m1).trans g2
        have i3 := (hO'.cell (p := ⟨bX, 3, none⟩) m1).trans g3
        clear g0 g1 g2 g3 HX HZ HB hO'
        clear c0 c1 c2 c3 c4 c5 c6 c7
        clear zf0 zf1 zf2 zf3 zf4 zf5 zf6 zf7
        obtain ⟨W5, hW5⟩ : ∃ W5, (((W4.setCell ⟨w.heap.size + 1 + 1, 0, none⟩ (.bool sx)).setCell ⟨w.heap.size + 1 + 1, 1, none⟩ (u ax)).setCell ⟨w.heap.size + 1 + 1, 2, none⟩ (u bx)).setCell ⟨w.heap.size + 1 + 1, 3, none⟩ (.pointer px) = W5 := ⟨_, rfl⟩
        simp only [Nat.zero_add] at hZ' hB' i0 i1 i2 i3
        rw [hW5] at hX' hZ' hB' i0 i1 i2 i3 ⊢
        have HX := Lib.hid hX'
        have HZ := Lib.hid hZ'
        have HB := Lib.hid hB'
        have g0 := i0
        have g1 := i1
        have g2 := i2
        have g3 := i3
        clear hX' hZ' hB' hW5 i0 i1 i2 i3
        refine (HC.out s2 a2 b2 p2 hi W5 HQ2.out Zh.out HB.out).mono ?_
        rintro e W6 ⟨rfl, hb⟩
        (have hh := boxq (b := bX) hb g0 g1 g2 g3; clear g0 g1 g2 g3; obtain ⟨g0, g1, g2, g3⟩ := hh)
        have HX := Lib.hid (HX.out.below hb (Nat.le_refl _))
        have HZ := Lib.hid (Box8.below HZ.out hb (Nat.le_refl _))
        have HB := Lib.hid (chain1 HB.out hb)
        clear hb HC
        obtain ⟨c0, c1, c2, c3, c4, c5, c6, c7⟩ := HX.out.cells
        have zf0 := HX.out.frozen 0
        have zf1 := HX.out.frozen 1
        have zf2 := HX.out.frozen 2
        have zf3 := HX.out.frozen 3
        have zf4 := HX.out.frozen 4
        have zf5 := HX.out.frozen 5
        have zf6 := HX.out.frozen 6
        have zf7 := HX.out.frozen 7
        by_cases hch : hi < t
        · have hcn : (0 : Int) < cmpQ t hi := by unfold cmpQ; rw [if_neg (not_lt_of_lt hch), if_pos hch]; decide
          have H2 := Lib.hid hch
          have HX' := Lib.hid (HX.out.setHigh (.bool sx) (u ax) (u bx) (.pointer px))
          have HZ' := Lib.hid (Box8.of_block HZ.out ((only4 W6 (w.heap.size + 1 + 1) 4 (.bool sx) (u ax) (u bx) (.pointer px)).block (w.heap.size + 1) n5))
          have HB' := Lib.hid (HB.out.trans ((only4 W6 (w.heap.size + 1 + 1) 4 (.bool sx) (u ax) (u bx) (.pointer px)).below (by omega)))
          clear HX HZ HB hch
          have HX := HX'
          have HZ := HZ'
          have HB := HB'
          clear HX' HZ' HB'
          generalize cmpQ t hi = cc at *
          go_wp2_with fail
          go_roundw
          case rel => exact ⟨j + 1, sx, ax, bx, px, sx, ax, bx, px, by go_num, by omega, HX.out, by rw [E1.out, if_pos H1.out]; exact HQx.out, by rw [E2.out, if_pos H2.out]; exact HQx.out, HZ.out, HB.out⟩
          case measure => simp [intOf]; omega
        · have hcn : ¬ (0 : Int) < cmpQ t hi := by unfold cmpQ; rw [if_neg hch]; split <;> decide
          have H2 := Lib.hid hch
          clear hch
          generalize cmpQ t hi = cc at *
          go_wp2_with fail
          go_roundw
          case rel => exact ⟨j + 1, sx, ax, bx, px, s2, a2, b2, p2, by go_num, by omega, HX.out, by rw [E1.out, if_pos H1.out]; exact HQx.out, by rw [E2.out, if_neg H2.out]; exact HQ2.out, HZ.out, HB.out⟩
          case measure => simp [intOf]; omega
      · have hcn : ¬ cmpQ t lo < 0 := by unfold cmpQ; rw [if_neg hcl]; split <;> decide
        have H1 := Lib.hid hcl
        clear hcl
        generalize cmpQ t lo = c at *
        go_wp2_with fail
        clear c0 c1 c2 c3 c4 c5 c6 c7
        clear zf0 zf1 zf2 zf3 zf4 zf5 zf6 zf7
        refine (HC.out s2 a2 b2 p2 hi W4 HQ2.out Zh.out HB.out).mono ?_
        rintro e W6 ⟨rfl, hb⟩
        (have hh := boxq (b := bX) hb g0 g1 g2 g3; clear g0 g1 g2 g3; obtain ⟨g0, g1, g2, g3⟩ := hh)
        have HX := Lib.hid (HX.out.below hb (Nat.le_refl _))
        have HZ := Lib.hid (Box8.below HZ.out hb (Nat.le_refl _))
        have HB := Lib.hid (chain1 HB.out hb)
        clear hb HC
        obtain ⟨c0, c1, c2, c3, c4, c5, c6, c7⟩ := HX.out.cells
        have zf0 := HX.out.frozen 0
        have zf1 := HX.out.frozen 1
        have zf2 := HX.out.frozen 2
        have zf3 := HX.out.frozen 3
        have zf4 := HX.out.frozen 4
        have zf5 := HX.out.frozen 5
        have zf6 := HX.out.frozen 6
        have zf7 := HX.out.frozen 7
        by_cases hch : hi < t
        · have hcn : (0 : Int) < cmpQ t hi := by unfold cmpQ; rw [if_neg (not_lt_of_lt hch), if_pos hch]; decide
          have H2 := Lib.hid hch
          have HX' := Lib.hid (HX.out.setHigh (.bool sx) (u ax) (u bx) (.pointer px))
          have HZ' := Lib.hid (Box8.of_block HZ.out ((only4 W6 (w.heap.size + 1 + 1) 4 (.bool sx) (u ax) (u bx) (.pointer px)).block (w.heap.size + 1) n5))
          have HB' := Lib.hid (HB.out.trans ((only4 W6 (w.heap.size + 1 + 1) 4 (.bool sx) (u ax) (u bx) (.pointer px)).below (by omega)))
          clear HX HZ HB hch
          have HX := HX'
          have HZ := HZ'
          have HB := HB'
          clear HX' HZ' HB'
          generalize cmpQ t hi = cc at *
          go_wp2_with fail
          go_roundw
          case rel => exact ⟨j + 1, s1, a1, b1, p1, sx, ax, bx, px, by go_num, by omega, HX.out, by rw [E1.out, if_neg H1.out]; exact HQ1.out, by rw [E2.out, if_pos H2.out]; exact HQx.out, HZ.out, HB.out⟩
          case measure => simp [intOf]; omega
        · have hcn : ¬ (0 : Int) < cmpQ t hi := by unfold cmpQ; rw [if_neg hch]; split <;> decide
          have H2 := Lib.hid hch
          clear hch
          generalize cmpQ t hi = cc at *
          go_wp2_with fail
          go_roundw
          case rel => exact ⟨j + 1, s1, a1, b1, p1, s2, a2, b2, p2, by go_num, by omega, HX.out, by rw [E1.out, if_neg H1.out]; exact HQ1.out, by rw [E2.out, if_neg H2.out]; exact HQ2.out, HZ.out, HB.out⟩
          case measure => simp [intOf]; omega
    · obtain rfl : j = rs.length := by omega
      have hS : IsS w (.agg #[.bool s1, u a1, u b1, .pointer p1, .bool s2, u a2, u b2, .pointer p2]) (lowOf r rs) (highOf r rs) := by
        rw [List.take_length] at hQ1 hQ2
        exact ⟨s1, a1, b1, p1, s2, a2, b2, p2, rfl, hQ1, hQ2⟩
      have hfin := SpNew.stored (Box8.nbox hZ) (hS.below hB (Nat.le_refl _)) hB (show w.heap.size ≤ w.heap.size + 1 by omega) (.bool s1) (u a1) (u b1) (.pointer p1) (.bool s2) (u a2) (u b2) (.pointer p2)
      have HFin := Lib.hid hfin
      obtain ⟨c0, c1, c2, c3, c4, c5, c6, c7⟩ := hX.cells
      obtain ⟨z0, z1, z2, z3, z4, z5, z6, z7⟩ := Box8.cells hZ
      have zf0 := Box8.frozen hZ 0
      have zf1 := Box8.frozen hZ 1
      have zf2 := Box8.frozen hZ 2
      have zf3 := Box8.frozen hZ 3
      have zf4 := Box8.frozen hZ 4
      have zf5 := Box8.frozen hZ 5
      have zf6 := Box8.frozen hZ 6
      have zf7 := Box8.frozen hZ 7
      have n6 : ¬ w.heap.size + 1 = w.heap.size + 1 + 1 := by omega
      have n7 : ¬ w.heap.size + 1 + 1 = w.heap.size + 1 := by omega
      clear hfin hS hQ1 hQ2 hX hZ hB hlt
      go_wp2_with fail
      refine bodyPost_ret (v := .agg #[.bool s1, u a1, u b1, .pointer p1, .bool s2, u a2, u b2, .pointer p2]) (by simp [results, Tryz.results112, go_sem, z0, z1, z2, z3, z4, z5, z6, z7]) rfl ?_
      exact HFin.out

end Go.Proofs.YtojploidgagmgaaGreatDoor

/- sorted, Between, Hull: ends in their order. -/
namespace Go.Proofs.YtojploidgagmgaaGreatDoor
open Go Go.RowKit Go.Proofs Lim

/-- A new slice of one number. -/
theorem qsl1 (w : World) (s : Bool) (a b : Nat) (p : Option Addr) (r : Rat) (h : IsQ w (.agg #[.bool s, u a, u b, .pointer p]) r) :
    QSl (w.alloc (.cells #[.bool s, u a, u b, .pointer p] 26)) (.slice (some ⟨w.heap.size, 0, none⟩) 1 1) [r] := by
  have hb := below1 w (.cells #[.bool s, u a, u b, .pointer p] 26)
  refine ⟨_, 1, rfl, Nat.le_refl _, by decide, fun _ => ⟨w.heap.size, 0, rfl, fun i hi => ?_⟩⟩
  have : i = 0 := by simpa using hi
  subst this
  refine ⟨_, ⟨s, a, b, p, rfl, ?_, ?_, ?_, ?_⟩, h.below hb (Nat.le_refl _)⟩
  all_goals exact World.cell?_alloc_new ..

/-- A new slice of three numbers. -/
theorem qsl3 (w : World) (s1 s2 s3 : Bool) (a1 b1 a2 b2 a3 b3 : Nat) (p1 p2 p3 : Option Addr) (r1 r2 r3 : Rat) (h1 : IsQ w (.agg #[.bool s1, u a1, u b1, .pointer p1]) r1)
    (h2 : IsQ w (.agg #[.bool s2, u a2, u b2, .pointer p2]) r2) (h3 : IsQ w (.agg #[.bool s3, u a3, u b3, .pointer p3]) r3) :
    QSl (w.alloc (.cells #[.bool s1, u a1, u b1, .pointer p1, .bool s2, u a2, u b2, .pointer p2, .bool s3, u a3, u b3, .pointer p3] 26)) (.slice (some ⟨w.heap.size, 0, none⟩) 3 3) [r1, r2, r3] := by
  have hb := below1 w (.cells #[.bool s1, u a1, u b1, .pointer p1, .bool s2, u a2, u b2, .pointer p2, .bool s3, u a3, u b3, .pointer p3] 26)
  refine ⟨_, 3, rfl, Nat.le_refl _, by decide, fun _ => ⟨w.heap.size, 0, rfl, fun i hi => ?_⟩⟩
  have hi : i < 3 := hi
  rcases i with _ | _ | _ | i
  · refine ⟨_, ⟨s1, a1, b1, p1, rfl, ?_, ?_, ?_, ?_⟩, h1.below hb (Nat.le_refl _)⟩
    all_goals exact World.cell?_alloc_new ..
  · refine ⟨_, ⟨s2, a2, b2, p2, rfl, ?_, ?_, ?_, ?_⟩, h2.below hb (Nat.le_refl _)⟩
    all_goals exact World.cell?_alloc_new ..
  · refine ⟨_, ⟨s3, a3, b3, p3, rfl, ?_, ?_, ?_, ?_⟩, h3.below hb (Nat.le_refl _)⟩
    all_goals exact World.cell?_alloc_new ..
  · omega

/-- A span's box and that of a result. -/
theorem box8z (w : World) (c0 c1 c2 c3 c4 c5 c6 c7 : Value) : ∃ W, (w.alloc (.cells #[c0, c1, c2, c3, c4, c5, c6, c7] 66)).alloc (.cells #[.bool false, .int .u64 0, .int .u64 0, .pointer none, .bool false, .int .u64 0, .int .u64 0, .pointer none] 66) = W ∧
    Below w.heap.size w W ∧ Box8 W w.heap.size c0 c1 c2 c3 c4 c5 c6 c7 ∧ ZBox8 W (w.heap.size + 1) ∧ W.heap.size = w.heap.size + 1 + 1 := by
  have hb1 := below1 w (.cells #[c0, c1, c2, c3, c4, c5, c6, c7] 66)
  have h1 := Box8.new w c0 c1 c2 c3 c4 c5 c6 c7
  have hs1 : (w.alloc (.cells #[c0, c1, c2, c3, c4, c5, c6, c7] 66)).heap.size = w.heap.size + 1 := World.size_alloc ..
  generalize w.alloc (.cells #[c0, c1, c2, c3, c4, c5, c6, c7] 66) = W1 at *
  have hb2 := below1 W1 (.cells #[.bool false, .int .u64 0, .int .u64 0, .pointer none, .bool false, .int .u64 0, .int .u64 0, .pointer none] 66)
  have h2 := Box8.new W1 (.bool false) (.int .u64 0) (.int .u64 0) (.pointer none) (.bool false) (.int .u64 0) (.int .u64 0) (.pointer none)
  rw [hs1] at h2
  exact ⟨_, rfl, chain1 hb1 hb2, h1.below hb2 (Nat.le_refl _), h2, by rw [World.size_alloc, hs1]⟩

theorem sorted_any (v : Value) (lo hi : Rat) (k : Nat) (w : World) (h : IsS w v lo hi) (z1 : Siz lo k) (z2 : Siz hi k) (hk : (k : Int) ≤ 1073741824) :
    Calls Tryz.prog 115 #[v] w (SpNew w (lowOf lo [hi]) (highOf lo [hi])) := by
  obtain ⟨s1, a1, b1, p1, s2, a2, b2, p2, rfl, h1, h2⟩ := h
  have HA := Lib.hid (fun sl W (hW : Below w.heap.size w W) (hs : QSl W sl [hi]) => around_any _ sl lo [hi] k W (h1.below hW (Nat.le_refl _)) hs z1 (by intro x hx; simp at hx; subst hx; exact z2) hk (by simp))
  have H2 := Lib.hid h2
  clear h1 h2 z1 z2 hk
  go_enter Tryz.func115, Tryz.ntmps115
  go_wp2_with fail
  obtain ⟨W0, hW0, hb0, _, hz, hs⟩ := box8z w (.bool s1) (u a1) (u b1) (.pointer p1) (.bool s2) (u a2) (u b2) (.pointer p2)
  rw [hW0]
  have hb1 := below1 W0 (.cells #[.bool s2, u a2, u b2, .pointer p2] 26)
  have hq := qsl1 W0 s2 a2 b2 p2 hi (H2.out.below hb0 (Nat.le_refl _))
  rw [hs] at hq
  refine (HA.out _ _ (chain1 hb0 hb1) hq).mono ?_
  rintro e W9 ⟨v, rfl, hv, hb⟩
  have hb9 := chain1 (chain1 hb0 hb1) hb
  have hz9 : ZBox8 W9 (w.heap.size + 1) := Box8.below (Box8.below hz hb1 (Nat.le_refl _)) hb (Nat.le_refl _)
  have HB9 := Lib.hid hb9
  clear hb0 hb1 hq hz hs hW0 hb9 HA
  (have hv' := hv; obtain ⟨t1, d1, e1, q1, t2, d2, e2, q2, rfl, _, _⟩ := hv'; have HFin := Lib.hid (SpNew.stored (Box8.nbox hz9) hv HB9.out (by omega) (.bool t1) (u d1) (u e1) (.pointer q1) (.bool t2) (u d2) (u e2) (.pointer q2)); (obtain ⟨z0, z1, z2, z3, z4, z5, z6, z7⟩ := Box8.cells hz9; have zf0 := Box8.frozen hz9 0; have zf1 := Box8.frozen hz9 1; have zf2 := Box8.frozen hz9 2; have zf3 := Box8.frozen hz9 3; have zf4 := Box8.frozen hz9 4; have zf5 := Box8.frozen hz9 5; have zf6 := Box8.frozen hz9 6; have zf7 := Box8.frozen hz9 7); clear hv hz9; clear hb; go_wp2_with fail; refine bodyPost_ret (v := .agg #[.bool t1, u d1, u e1, .pointer q1, .bool t2, u d2, u e2, .pointer q2]) (by simp [results, Tryz.results115, go_sem, z0, z1, z2, z3, z4, z5, z6, z7]) rfl ?_; exact HFin.out)

theorem between_any (v1 v2 : Value) (r s : Rat) (k : Nat) (w : World) (h1 : IsQ w v1 r) (h2 : IsQ w v2 s) (z1 : Siz r k) (z2 : Siz s k) (hk : (k : Int) ≤ 1073741824) :
    Calls Tryz.prog 59 #[v1, v2] w (SpNew w (lowOf r [s]) (highOf r [s])) := by
  have HA := Lib.hid (fun sl W (hW : Below w.heap.size w W) (hs : QSl W sl [s]) => around_any v1 sl r [s] k W (h1.below hW (Nat.le_refl _)) hs z1 (by intro x hx; simp at hx; subst hx; exact z2) hk (by simp))
  have H2 := Lib.hid h2
  obtain ⟨s1, a1, b1, p1, rfl⟩ := h1.form
  obtain ⟨s2, a2, b2, p2, rfl⟩ := h2.form
  clear h1 h2 z1 z2 hk
  go_enter Tryz.func59, Tryz.ntmps59
  go_wp2_with fail
  obtain ⟨W1, hW1, hb1, _, _⟩ := box2 w (.bool s1) (u a1) (u b1) (.pointer p1) (.bool s2) (u a2) (u b2) (.pointer p2)
  have hs1 : W1.heap.size = w.heap.size + 1 + 1 := by rw [hW1, World.size_alloc, World.size_alloc]
  rw [← hW1]
  have hb2 := below1 W1 (.cells #[.bool false, .int .u64 0, .int .u64 0, .pointer none, .bool false, .int .u64 0, .int .u64 0, .pointer none] 66)
  have hz := Box8.new W1 (.bool false) (.int .u64 0) (.int .u64 0) (.pointer none) (.bool false) (.int .u64 0) (.int .u64 0) (.pointer none)
  have hs2 : (W1.alloc (.cells #[.bool false, .int .u64 0, .int .u64 0, .pointer none, .bool false, .int .u64 0, .int .u64 0, .pointer none] 66)).heap.size = w.heap.size + 1 + 1 + 1 := by rw [World.size_alloc, hs1]
  rw [hs1] at hz
  have hb0 := chain1 hb1 hb2
  clear hb1 hb2 hW1
  generalize W1.alloc (.cells #[.bool false, .int .u64 0, .int .u64 0, .pointer none, .bool false, .int .u64 0, .int .u64 0, .pointer none] 66) = W0 at *
  have hb1 := below1 W0 (.cells #[.bool s2, u a2, u b2, .pointer p2] 26)
  have hq := qsl1 W0 s2 a2 b2 p2 s (H2.out.below hb0 (Nat.le_refl _))
  rw [hs2] at hq
  refine (HA.out _ _ (chain1 hb0 hb1) hq).mono ?_
  rintro e W9 ⟨v, rfl, hv, hb⟩
  have hb9 := chain1 (chain1 hb0 hb1) hb
  have hz9 : ZBox8 W9 (w.heap.size + 1 + 1) := Box8.below (Box8.below hz hb1 (Nat.le_refl _)) hb (Nat.le_refl _)
  have HB9 := Lib.hid hb9
  clear hb0 hb1 hq hz hs2 hs1 hb9 HA
  (have hv' := hv; obtain ⟨t1, d1, e1, q1, t2, d2, e2, q2, rfl, _, _⟩ := hv'; have HFin := Lib.hid (SpNew.stored (Box8.nbox hz9) hv HB9.out (by omega) (.bool t1) (u d1) (u e1) (.pointer q1) (.bool t2) (u d2) (u e2) (.pointer q2)); (obtain ⟨z0, z1, z2, z3, z4, z5, z6, z7⟩ := Box8.cells hz9; have zf0 := Box8.frozen hz9 0; have zf1 := Box8.frozen hz9 1; have zf2 := Box8.frozen hz9 2; have zf3 := Box8.frozen hz9 3; have zf4 := Box8.frozen hz9 4; have zf5 := Box8.frozen hz9 5; have zf6 := Box8.frozen hz9 6; have zf7 := Box8.frozen hz9 7); clear hv hz9; clear hb; go_wp2_with fail; refine bodyPost_ret (v := .agg #[.bool t1, u d1, u e1, .pointer q1, .bool t2, u d2, u e2, .pointer q2]) (by simp [results, Tryz.results59, go_sem, z0, z1, z2, z3, z4, z5, z6, z7]) rfl ?_; exact HFin.out)

/-- The boxes of two spans and that of a result. -/
theorem box88z (w : World) (c0 c1 c2 c3 c4 c5 c6 c7 d0 d1 d2 d3 d4 d5 d6 d7 : Value) : ∃ W, ((w.alloc (.cells #[c0, c1, c2, c3, c4, c5, c6, c7] 66)).alloc (.cells #[d0, d1, d2, d3, d4, d5, d6, d7] 66)).alloc (.cells #[.bool false, .int .u64 0, .int .u64 0, .pointer none, .bool false, .int .u64 0, .int .u64 0, .pointer none] 66) = W ∧
    Below w.heap.size w W ∧ Box8 W w.heap.size c0 c1 c2 c3 c4 c5 c6 c7 ∧ Box8 W (w.heap.size + 1) d0 d1 d2 d3 d4 d5 d6 d7 ∧ ZBox8 W (w.heap.size + 1 + 1) ∧ W.heap.size = w.heap.size + 1 + 1 + 1 := by
  have hb1 := below1 w (.cells #[c0, c1, c2, c3, c4, c5, c6, c7] 66)
  have h1 := Box8.new w c0 c1 c2 c3 c4 c5 c6 c7
  have hs1 : (w.alloc (.cells #[c0, c1, c2, c3, c4, c5, c6, c7] 66)).heap.size = w.heap.size + 1 := World.size_alloc ..
  generalize w.alloc (.cells #[c0, c1, c2, c3, c4, c5, c6, c7] 66) = W1 at *
  obtain ⟨W2, hW2, hb2, h2, h3, hs2⟩ := box8z W1 d0 d1 d2 d3 d4 d5 d6 d7
  rw [hs1] at h2 h3 hs2
  exact ⟨W2, hW2, chain1 hb1 hb2, h1.below hb2 (Nat.le_refl _), h2, h3, hs2⟩

theorem hull_any (v1 v2 : Value) (lo hi lo2 hi2 : Rat) (k : Nat) (w : World) (h1 : IsS w v1 lo hi) (h2 : IsS w v2 lo2 hi2) (z1 : Siz lo k) (z2 : Siz hi k) (z3 : Siz lo2 k) (z4 : Siz hi2 k) (hk : (k : Int) ≤ 1073741824) :
    Calls Tryz.prog 57 #[v1, v2] w (SpNew w (lowOf lo [hi, lo2, hi2]) (highOf lo [hi, lo2, hi2])) := by
  obtain ⟨s1, a1, b1, p1, s2, a2, b2, p2, rfl, h1, h2'⟩ := h1
  obtain ⟨s3, a3, b3, p3, s4, a4, b4, p4, rfl, h3, h4⟩ := h2
  have HA := Lib.hid (fun sl W (hW : Below w.heap.size w W) (hs : QSl W sl [hi, lo2, hi2]) => around_any _ sl lo [hi, lo2, hi2] k W (h1.below hW (Nat.le_refl _)) hs z1 (by intro x hx; simp at hx; rcases hx with rfl | rfl | rfl <;> assumption) hk (by simp))
  have HQ := Lib.hid (And.intro h2' (And.intro h3 h4))
  clear h1 h2' h3 h4 z1 z2 z3 z4 hk
  go_enter Tryz.func57, Tryz.ntmps57
  go_wp2_with fail
  obtain ⟨W0, hW0, hb0, _, _, hz, hs⟩ := box88z w (.bool s1) (u a1) (u b1) (.pointer p1) (.bool s2) (u a2) (u b2) (.pointer p2) (.bool s3) (u a3) (u b3) (.pointer p3) (.bool s4) (u a4) (u b4) (.pointer p4)
  rw [hW0]
  have hb1 := below1 W0 (.cells #[.bool s2, u a2, u b2, .pointer p2, .bool s3, u a3, u b3, .pointer p3, .bool s4, u a4, u b4, .pointer p4] 26)
  have hq := qsl3 W0 s2 s3 s4 a2 b2 a3 b3 a4 b4 p2 p3 p4 hi lo2 hi2 (HQ.out.1.below hb0 (Nat.le_refl _)) (HQ.out.2.1.below hb0 (Nat.le_refl _)) (HQ.out.2.2.below hb0 (Nat.le_refl _))
  rw [hs] at hq
  refine (HA.out _ _ (chain1 hb0 hb1) hq).mono ?_
  rintro e W9 ⟨v, rfl, hv, hb⟩
  have hb9 := chain1 (chain1 hb0 hb1) hb
  have hz9 : ZBox8 W9 (w.heap.size + 1 + 1) := Box8.below (Box8.below hz hb1 (Nat.le_refl _)) hb (Nat.le_refl _)
  have HB9 := Lib.hid hb9
  clear hb0 hb1 hq hz hs hW0 hb9 HA
  (have hv' := hv; obtain ⟨t1, d1, e1, q1, t2, d2, e2, q2, rfl, _, _⟩ := hv'; have HFin := Lib.hid (SpNew.stored (Box8.nbox hz9) hv HB9.out (by omega) (.bool t1) (u d1) (u e1) (.pointer q1) (.bool t2) (u d2) (u e2) (.pointer q2)); (obtain ⟨z0, z1, z2, z3, z4, z5, z6, z7⟩ := Box8.cells hz9; have zf0 := Box8.frozen hz9 0; have zf1 := Box8.frozen hz9 1; have zf2 := Box8.frozen hz9 2; have zf3 := Box8.frozen hz9 3; have zf4 := Box8.frozen hz9 4; have zf5 := Box8.frozen hz9 5; have zf6 := Box8.frozen hz9 6; have zf7 := Box8.frozen hz9 7); clear hv hz9; clear hb; go_wp2_with fail; refine bodyPost_ret (v := .agg #[.bool t1, u d1, u e1, .pointer q1, .bool t2, u d2, u e2, .pointer q2]) (by simp [results, Tryz.results57, go_sem, z0, z1, z2, z3, z4, z5, z6, z7]) rfl ?_; exact HFin.out)

end Go.Proofs.YtojploidgagmgaaGreatDoor

/- Span.Has. -/
namespace Go.Proofs.YtojploidgagmgaaGreatDoor
open Go Go.RowKit Go.Proofs Lim

theorem cmpQ_le {r s : Rat} : cmpQ r s ≤ 0 ↔ r ≤ s := by
  unfold cmpQ
  by_cases h1 : r < s
  · rw [if_pos h1]; exact ⟨fun _ => Rat.le_of_lt h1, fun _ => by decide⟩
  · rw [if_neg h1]
    by_cases h2 : s < r
    · rw [if_pos h2]; exact ⟨fun h => absurd h (by decide), fun h => absurd h2 (Rat.not_lt.2 h)⟩
    · rw [if_neg h2]; exact ⟨fun _ => Rat.not_lt.1 h2, fun _ => by decide⟩

theorem lowOf_siz {r : Rat} {rs : List Rat} {k : Nat} (z : Siz r k) (zs : ∀ x ∈ rs, Siz x k) : Siz (lowOf r rs) k := by
  rcases lowOf_mem r rs with e | e
  · rw [e]; exact z
  · exact zs _ e
theorem highOf_siz {r : Rat} {rs : List Rat} {k : Nat} (z : Siz r k) (zs : ∀ x ∈ rs, Siz x k) : Siz (highOf r rs) k := by
  rcases highOf_mem r rs with e | e
  · rw [e]; exact z
  · exact zs _ e
theorem siz1 {s : Rat} {k : Nat} (z : Siz s k) : ∀ x ∈ [s], Siz x k := by intro x hx; simp at hx; subst hx; exact z

theorem Box8.set8 {W : World} {b : Nat} {c0 c1 c2 c3 c4 c5 c6 c7 : Value} (h : Box8 W b c0 c1 c2 c3 c4 c5 c6 c7) (d0 d1 d2 d3 d4 d5 d6 d7 : Value) :
    Box8 ((((((((W.setCell ⟨b, 0, none⟩ d0).setCell ⟨b, 1, none⟩ d1).setCell ⟨b, 2, none⟩ d2).setCell ⟨b, 3, none⟩ d3).setCell ⟨b, 4, none⟩ d4).setCell ⟨b, 5, none⟩ d5).setCell ⟨b, 6, none⟩ d6).setCell ⟨b, 7, none⟩ d7) b d0 d1 d2 d3 d4 d5 d6 d7 :=
  (h.setLow d0 d1 d2 d3).setHigh d4 d5 d6 d7

/-- A number's box beside a block that has changed. -/
theorem Only.box {b c : Nat} {w w' : World} {a0 a1 a2 a3 : Value} (h : Only b w w') (hc : ¬ c = b) (h0 : w.cell? ⟨c, 0, none⟩ = some a0) (h1 : w.cell? ⟨c, 1, none⟩ = some a1) (h2 : w.cell? ⟨c, 2, none⟩ = some a2) (h3 : w.cell? ⟨c, 3, none⟩ = some a3) :
    w'.cell? ⟨c, 0, none⟩ = some a0 ∧ w'.cell? ⟨c, 1, none⟩ = some a1 ∧ w'.cell? ⟨c, 2, none⟩ = some a2 ∧ w'.cell? ⟨c, 3, none⟩ = some a3 :=
  ⟨(h.cell (p := ⟨c, 0, none⟩) hc).trans h0, (h.cell (p := ⟨c, 1, none⟩) hc).trans h1, (h.cell (p := ⟨c, 2, none⟩) hc).trans h2, (h.cell (p := ⟨c, 3, none⟩) hc).trans h3⟩

/-- Whether a span has a number. -/
def hasQ (lo hi x : Rat) : Bool := decide (lowOf lo [hi] ≤ x) && decide (x ≤ highOf lo [hi])

theorem has_any (v vx : Value) (lo hi x : Rat) (k : Nat) (w : World) (h : IsS w v lo hi) (hx : IsQ w vx x) (z1 : Siz lo k) (z2 : Siz hi k) (z3 : Siz x k) (hk : (k : Int) ≤ 1073741824) :
    Calls Tryz.prog 60 #[v, vx] w (Val w (.bool (hasQ lo hi x))) := by
  have HS := Lib.hid (fun W (hW : Below w.heap.size w W) => sorted_any v lo hi k W (h.below hW (Nat.le_refl _)) z1 z2 hk)
  have zl := lowOf_siz z1 (siz1 z2)
  have zh := highOf_siz z1 (siz1 z2)
  unfold hasQ
  generalize lowOf lo [hi] = l at *
  generalize highOf lo [hi] = g at *
  have HC1 := Lib.hid (fun v1 W (h1 : IsQ W v1 l) (hW : Below w.heap.size w W) => cmp_q v1 vx l x k W h1 (hx.below hW (Nat.le_refl _)) zl z3 hk)
  have HC2 := Lib.hid (fun v1 W (h1 : IsQ W v1 g) (hW : Below w.heap.size w W) => cmp_q vx v1 x g k W (hx.below hW (Nat.le_refl _)) h1 z3 zh hk)
  obtain ⟨s1, a1, b1, p1, s2, a2, b2, p2, rfl, _, _⟩ := h
  obtain ⟨s3, a3, b3, p3, rfl⟩ := hx.form
  clear hx z1 z2 z3 hk zl zh
  go_enter Tryz.func60, Tryz.ntmps60
  go_wp2_with fail
  have hb1 := below1 w (.cells #[.bool s1, u a1, u b1, .pointer p1, .bool s2, u a2, u b2, .pointer p2] 66)
  have hs1 : (w.alloc (.cells #[.bool s1, u a1, u b1, .pointer p1, .bool s2, u a2, u b2, .pointer p2] 66)).heap.size = w.heap.size + 1 := World.size_alloc ..
  have hB := Box8.new w (.bool s1) (u a1) (u b1) (.pointer p1) (.bool s2) (u a2) (u b2) (.pointer p2)
  obtain ⟨W1, hW1⟩ : ∃ W1, w.alloc (.cells #[.bool s1, u a1, u b1, .pointer p1, .bool s2, u a2, u b2, .pointer p2] 66) = W1 := ⟨_, rfl⟩
  rw [hW1] at hb1 hs1 hB ⊢
  obtain ⟨W0, hW0, hb2, ⟨g0, g1, g2, g3⟩⟩ := box1 W1 (.bool s3) (u a3) (u b3) (.pointer p3)
  rw [← hW0]
  rw [hs1] at g0 g1 g2 g3
  have hB := Box8.below hB hb2 (Nat.le_refl _)
  have hb0 := chain1 hb1 hb2
  have n1 : ¬ w.heap.size = w.heap.size + 1 := by omega
  have n2 : ¬ w.heap.size + 1 = w.heap.size := by omega
  clear hW1 hW0 hb1 hb2 hs1
  refine (HS.out _ hb0).mono ?_
  rintro e W2 ⟨v, rfl, hv, hb⟩
  (have hh := boxq (b := w.heap.size + 1) hb g0 g1 g2 g3; clear g0 g1 g2 g3; obtain ⟨g0, g1, g2, g3⟩ := hh)
  have hB := Box8.below hB hb (Nat.le_refl _)
  have hA := chain1 hb0 hb
  obtain ⟨t1, d1, e1, q1, t2, d2, e2, q2, rfl, h1, h2⟩ := hv
  have ho := only8 W2 w.heap.size (.bool t1) (u d1) (u e1) (.pointer q1) (.bool t2) (u d2) (u e2) (.pointer q2)
  have H1 := Lib.hid (h1.other hB.nbox ho)
  have H2 := Lib.hid (h2.other hB.nbox ho)
  have HA := Lib.hid (hA.trans (ho.below (Nat.le_refl _)))
  have HX := Lib.hid (hB.set8 (.bool t1) (u d1) (u e1) (.pointer q1) (.bool t2) (u d2) (u e2) (.pointer q2))
  have HG := Lib.hid (ho.box n2 g0 g1 g2 g3)
  (obtain ⟨c0, c1, c2, c3, c4, c5, c6, c7⟩ := hB.cells)
  (have cf0 := Box8.frozen hB 0; have cf1 := Box8.frozen hB 1; have cf2 := Box8.frozen hB 2; have cf3 := Box8.frozen hB 3; have cf4 := Box8.frozen hB 4; have cf5 := Box8.frozen hB 5; have cf6 := Box8.frozen hB 6; have cf7 := Box8.frozen hB 7)
  clear hB hb hb0 hA h1 h2 ho HS
  have hn1 : decide (cmpQ l x ≤ 0) = decide (l ≤ x) := by rw [decide_eq_decide]; exact cmpQ_le
  have hn2 : decide (cmpQ x g ≤ 0) = decide (x ≤ g) := by rw [decide_eq_decide]; exact cmpQ_le
  generalize cmpQ l x = m1 at *
  generalize cmpQ x g = m2 at *
  generalize decide (l ≤ x) = r1 at *
  generalize decide (x ≤ g) = r2 at *
  go_wp2_with fail
  clear c0 c1 c2 c3 c4 c5 c6 c7 cf0 cf1 cf2 cf3 cf4 cf5 cf6 cf7 g0 g1 g2 g3
  obtain ⟨WS, hWS⟩ : ∃ WS, (((((((W2.setCell ⟨w.heap.size, 0, none⟩ (.bool t1)).setCell ⟨w.heap.size, 1, none⟩ (u d1)).setCell ⟨w.heap.size, 2, none⟩ (u e1)).setCell ⟨w.heap.size, 3, none⟩ (.pointer q1)).setCell ⟨w.heap.size, 4, none⟩ (.bool t2)).setCell ⟨w.heap.size, 5, none⟩ (u d2)).setCell ⟨w.heap.size, 6, none⟩ (u e2)).setCell ⟨w.heap.size, 7, none⟩ (.pointer q2) = WS := ⟨_, rfl⟩
  rw [hWS] at H1 H2 HA HX HG ⊢
  clear hWS
  refine (HC1.out _ _ H1.out HA.out).mono ?_
  rintro e W3 ⟨rfl, hb⟩
  obtain ⟨g0, g1, g2, g3⟩ := HG.out
  (have hh := boxq (b := w.heap.size + 1) hb g0 g1 g2 g3; clear g0 g1 g2 g3; obtain ⟨g0, g1, g2, g3⟩ := hh)
  have hB := Box8.below HX.out hb (Nat.le_refl _)
  (obtain ⟨c0, c1, c2, c3, c4, c5, c6, c7⟩ := hB.cells)
  have H2 := Lib.hid (H2.out.below hb (Nat.le_refl _))
  have HA := Lib.hid (chain1 HA.out hb)
  clear hb hB HX HG H1 HC1
  cases r1
  · have hr1 : ¬ m1 ≤ 0 := by simpa using hn1
    have hrd : decide (m1 ≤ 0) = false := hn1
    go_wp2_with fail
    go_ret
    exact ⟨rfl, HA.out⟩
  · have hr1 : m1 ≤ 0 := by simpa using hn1
    go_wp2_with fail
    refine (HC2.out _ _ H2.out HA.out).mono ?_
    rintro e W4 ⟨rfl, hb⟩
    have HA := Lib.hid (chain1 HA.out hb)
    clear hb HC2 H2
    cases r2
    · have hr2 : ¬ m2 ≤ 0 := by simpa using hn2
      go_wp2_with fail
      go_ret
      exact ⟨rfl, HA.out⟩
    · have hr2 : m2 ≤ 0 := by simpa using hn2
      go_wp2_with fail
      go_ret
      exact ⟨rfl, HA.out⟩

end Go.Proofs.YtojploidgagmgaaGreatDoor

/- Span.with: the span of the results of an operation. -/
namespace Go.Proofs.YtojploidgagmgaaGreatDoor
open Go Go.RowKit Go.Proofs Lim

/-- An operation on numbers, at two numbers, in all later worlds. -/
def OpAt (w : World) (g : Nat) (v1 v2 : Value) (t : Rat) : Prop := ∀ W, Below w.heap.size w W → Calls Tryz.prog g #[v1, v2] W (QNew W t)

set_option maxHeartbeats 2000000 in
theorem with_any (g : Nat) (eg : ∀ args w, (callFunc g args).run Tryz.prog w = .ok (.enter g args) w) (s1 s2 s3 s4 : Bool) (a1 b1 a2 b2 a3 b3 a4 b4 : Nat) (p1 p2 p3 p4 : Option Addr) (r1 r2 r3 r4 : Rat) (k : Nat) (w : World)
    (h1 : OpAt w g (.agg #[.bool s1, u a1, u b1, .pointer p1]) (.agg #[.bool s3, u a3, u b3, .pointer p3]) r1) (h2 : OpAt w g (.agg #[.bool s1, u a1, u b1, .pointer p1]) (.agg #[.bool s4, u a4, u b4, .pointer p4]) r2)
    (h3 : OpAt w g (.agg #[.bool s2, u a2, u b2, .pointer p2]) (.agg #[.bool s3, u a3, u b3, .pointer p3]) r3) (h4 : OpAt w g (.agg #[.bool s2, u a2, u b2, .pointer p2]) (.agg #[.bool s4, u a4, u b4, .pointer p4]) r4)
    (z1 : Siz r1 k) (z2 : Siz r2 k) (z3 : Siz r3 k) (z4 : Siz r4 k) (hk : (k : Int) ≤ 1073741824) :
    Calls Tryz.prog 109 #[.agg #[.bool s1, u a1, u b1, .pointer p1, .bool s2, u a2, u b2, .pointer p2], .agg #[.bool s3, u a3, u b3, .pointer p3, .bool s4, u a4, u b4, .pointer p4], .func (.func g) #[] #[]] w
      (SpNew w (lowOf r1 [r2, r3, r4]) (highOf r1 [r2, r3, r4])) := by
  have HA := Lib.hid (fun v sl W (hv : IsQ W v r1) (hs : QSl W sl [r2, r3, r4]) => around_any v sl r1 [r2, r3, r4] k W hv hs z1 (by intro x hx; simp at hx; rcases hx with rfl | rfl | rfl <;> assumption) hk (by simp))
  unfold OpAt at h1 h2 h3 h4
  have H1 := Lib.hid h1
  have H2 := Lib.hid h2
  have H3 := Lib.hid h3
  have H4 := Lib.hid h4
  clear h1 h2 h3 h4 z1 z2 z3 z4 hk
  go_enter Tryz.func109, Tryz.ntmps109
  go_wp2_with fail
  obtain ⟨W0, hW0, hb0, hX, hY, hz, hs⟩ := box88z w (.bool s1) (u a1) (u b1) (.pointer p1) (.bool s2) (u a2) (u b2) (.pointer p2) (.bool s3) (u a3) (u b3) (.pointer p3) (.bool s4) (u a4) (u b4) (.pointer p4)
  rw [hW0]
  have HW0 := Lib.hid hb0
  have HZ := Lib.hid hz
  have HX := Lib.hid hX
  have HY := Lib.hid hY
  have hb0 := Below.refl W0.heap.size W0
  have n1 : ¬ w.heap.size = w.heap.size + 1 + 1 := by omega
  have n2 : ¬ w.heap.size + 1 + 1 = w.heap.size := by omega
  have n3 : ¬ w.heap.size + 1 = w.heap.size + 1 + 1 := by omega
  have n4 : ¬ w.heap.size + 1 + 1 = w.heap.size + 1 := by omega
  (obtain ⟨c0, c1, c2, c3, c4, c5, c6, c7⟩ := hX.cells)
  (obtain ⟨d0, d1, d2, d3, d4, d5, d6, d7⟩ := hY.cells)
  clear hX hY hz hs hW0
  go_region_held3 (fun w' => (w'.cell? ⟨w.heap.size, 0, none⟩ = some (.bool s1) ∧ w'.cell? ⟨w.heap.size, 1, none⟩ = some (u a1) ∧ w'.cell? ⟨w.heap.size, 2, none⟩ = some (u b1) ∧ w'.cell? ⟨w.heap.size, 3, none⟩ = some (.pointer p1) ∧ w'.cell? ⟨w.heap.size, 4, none⟩ = some (.bool s2) ∧ w'.cell? ⟨w.heap.size, 5, none⟩ = some (u a2) ∧ w'.cell? ⟨w.heap.size, 6, none⟩ = some (u b2) ∧ w'.cell? ⟨w.heap.size, 7, none⟩ = some (.pointer p2)) ∧ (w'.cell? ⟨w.heap.size + 1, 0, none⟩ = some (.bool s3) ∧ w'.cell? ⟨w.heap.size + 1, 1, none⟩ = some (u a3) ∧ w'.cell? ⟨w.heap.size + 1, 2, none⟩ = some (u b3) ∧ w'.cell? ⟨w.heap.size + 1, 3, none⟩ = some (.pointer p3) ∧ w'.cell? ⟨w.heap.size + 1, 4, none⟩ = some (.bool s4) ∧ w'.cell? ⟨w.heap.size + 1, 5, none⟩ = some (u a4) ∧ w'.cell? ⟨w.heap.size + 1, 6, none⟩ = some (u b4) ∧ w'.cell? ⟨w.heap.size + 1, 7, none⟩ = some (.pointer p4))) (go_keep) (first | ((with_reducible refine (H1.out _ HW0.out.drew).mono ?_); rintro e W1 ⟨v1, rfl, hv1, hb⟩; obtain ⟨x1, y1, y1', q1, rfl⟩ := hv1.form; have hb0 : Below W0.heap.size W0 W1 := (by first | exact chain hb0 hb | exact chain1 hb0 hb); clear hb; clear c0 c1 c2 c3 c4 c5 c6 c7 d0 d1 d2 d3 d4 d5 d6 d7; have hX := Box8.below HX.out hb0 (Nat.le_refl _); have hY := Box8.below HY.out hb0 (Nat.le_refl _); (obtain ⟨c0, c1, c2, c3, c4, c5, c6, c7⟩ := hX.cells); (obtain ⟨d0, d1, d2, d3, d4, d5, d6, d7⟩ := hY.cells); clear hX hY) | ((with_reducible refine (H2.out _ (chain1 HW0.out hb0)).mono ?_); rintro e W2 ⟨v2, rfl, hv2, hb⟩; obtain ⟨x2, y2, y2', q2, rfl⟩ := hv2.form; have hv1 := hv1.below hb (Nat.le_refl _); have hb0 : Below W0.heap.size W0 W2 := (by first | exact chain hb0 hb | exact chain1 hb0 hb); clear hb; clear c0 c1 c2 c3 c4 c5 c6 c7 d0 d1 d2 d3 d4 d5 d6 d7; have hX := Box8.below HX.out hb0 (Nat.le_refl _); have hY := Box8.below HY.out hb0 (Nat.le_refl _); (obtain ⟨c0, c1, c2, c3, c4, c5, c6, c7⟩ := hX.cells); (obtain ⟨d0, d1, d2, d3, d4, d5, d6, d7⟩ := hY.cells); clear hX hY) | ((with_reducible refine (H3.out _ (chain1 HW0.out hb0)).mono ?_); rintro e W3 ⟨v3, rfl, hv3, hb⟩; obtain ⟨x3, y3, y3', q3, rfl⟩ := hv3.form; have hv1 := hv1.below hb (Nat.le_refl _); have hv2 := hv2.below hb (Nat.le_refl _); have hb0 : Below W0.heap.size W0 W3 := (by first | exact chain hb0 hb | exact chain1 hb0 hb); clear hb; clear c0 c1 c2 c3 c4 c5 c6 c7 d0 d1 d2 d3 d4 d5 d6 d7; have hX := Box8.below HX.out hb0 (Nat.le_refl _); have hY := Box8.below HY.out hb0 (Nat.le_refl _); (obtain ⟨c0, c1, c2, c3, c4, c5, c6, c7⟩ := hX.cells); (obtain ⟨d0, d1, d2, d3, d4, d5, d6, d7⟩ := hY.cells); clear hX hY) | ((with_reducible refine (H4.out _ (chain1 HW0.out hb0)).mono ?_); rintro e W4 ⟨v4, rfl, hv4, hb⟩; obtain ⟨x4, y4, y4', q4, rfl⟩ := hv4.form; have hv1 := hv1.below hb (Nat.le_refl _); have hv2 := hv2.below hb (Nat.le_refl _); have hv3 := hv3.below hb (Nat.le_refl _); have hb0 : Below W0.heap.size W0 W4 := (by first | exact chain hb0 hb | exact chain1 hb0 hb); clear hb; clear c0 c1 c2 c3 c4 c5 c6 c7 d0 d1 d2 d3 d4 d5 d6 d7; have hX := Box8.below HX.out hb0 (Nat.le_refl _); have hY := Box8.below HY.out hb0 (Nat.le_refl _); (obtain ⟨c0, c1, c2, c3, c4, c5, c6, c7⟩ := hX.cells); (obtain ⟨d0, d1, d2, d3, d4, d5, d6, d7⟩ := hY.cells); clear hX hY) | ((with_reducible refine (HA.out _ _ _ (hv1.below (below1 W4 _) (Nat.le_refl _)) (qsl3 W4 x2 x3 x4 y2 y2' y3 y3' y4 y4' q2 q3 q4 r2 r3 r4 hv2 hv3 hv4)).mono ?_); rintro e W9 ⟨v, rfl, hv, hb⟩; have hb9 := chain1 hb0 (chain1 (below1 W4 _) hb); clear hb; clear c0 c1 c2 c3 c4 c5 c6 c7 d0 d1 d2 d3 d4 d5 d6 d7; have hX := Box8.below HX.out hb9 (Nat.le_refl _); have hY := Box8.below HY.out hb9 (Nat.le_refl _); (obtain ⟨c0, c1, c2, c3, c4, c5, c6, c7⟩ := hX.cells); (obtain ⟨d0, d1, d2, d3, d4, d5, d6, d7⟩ := hY.cells); clear hX hY; have hv' := hv; obtain ⟨t1, d1', e1, q1', t2, d2', e2, q2', rfl, _, _⟩ := hv'; have hz9 := Box8.below HZ.out hb9 (Nat.le_refl _); (obtain ⟨z0, z1, z2, z3, z4, z5, z6, z7⟩ := Box8.cells hz9; have zf0 := Box8.frozen hz9 0; have zf1 := Box8.frozen hz9 1; have zf2 := Box8.frozen hz9 2; have zf3 := Box8.frozen hz9 3; have zf4 := Box8.frozen hz9 4; have zf5 := Box8.frozen hz9 5; have zf6 := Box8.frozen hz9 6; have zf7 := Box8.frozen hz9 7)))
  have hfin := SpNew.stored (Box8.nbox hz9) hv (chain1 HW0.out hb9) (show w.heap.size ≤ w.heap.size + 1 + 1 by omega) (.bool t1) (u d1') (u e1) (.pointer q1') (.bool t2) (u d2') (u e2) (.pointer q2')
  have HFin := Lib.hid hfin
  clear hfin hv hz9 hb9 hv1 hv2 hv3 hv4 hb0 c0 c1 c2 c3 c4 c5 c6 c7 d0 d1 d2 d3 d4 d5 d6 d7
  go_wp2_with fail
  refine bodyPost_ret (v := .agg #[.bool t1, u d1', u e1, .pointer q1', .bool t2, u d2', u e2, .pointer q2']) (by simp [results, Tryz.results109, go_sem, z0, z1, z2, z3, z4, z5, z6, z7]) rfl ?_
  exact HFin.out

/-- The ends of the span of the results of an operation. -/
def wLow (f : Rat → Rat → Rat) (a b c d : Rat) : Rat := lowOf (f a c) [f a d, f b c, f b d]
def wHigh (f : Rat → Rat → Rat) (a b c d : Rat) : Rat := highOf (f a c) [f a d, f b c, f b d]

/-- with, for an operation that is told at all numbers of a size. -/
theorem with_op (g : Nat) (eg : ∀ args w, (callFunc g args).run Tryz.prog w = .ok (.enter g args) w) (f : Rat → Rat → Rat) (v1 v2 : Value) (a b c d : Rat) (k j : Nat) (w : World)
    (hop : ∀ x y r s W, IsQ W x r → IsQ W y s → (r = a ∨ r = b) → (s = c ∨ s = d) → Siz r k → Siz s k → Below w.heap.size w W → Calls Tryz.prog g #[x, y] W (QNew W (f r s)))
    (hf : ∀ r s, (r = a ∨ r = b) → (s = c ∨ s = d) → Siz r k → Siz s k → Siz (f r s) j) (h1 : IsS w v1 a b) (h2 : IsS w v2 c d) (za : Siz a k) (zb : Siz b k) (zc : Siz c k) (zd : Siz d k) (hj : (j : Int) ≤ 1073741824) :
    Calls Tryz.prog 109 #[v1, v2, .func (.func g) #[] #[]] w (SpNew w (wLow f a b c d) (wHigh f a b c d)) := by
  obtain ⟨s1, a1, b1, p1, s2, a2, b2, p2, rfl, i1, i2⟩ := h1
  obtain ⟨s3, a3, b3, p3, s4, a4, b4, p4, rfl, i3, i4⟩ := h2
  exact with_any g eg s1 s2 s3 s4 a1 b1 a2 b2 a3 b3 a4 b4 p1 p2 p3 p4 (f a c) (f a d) (f b c) (f b d) j w
    (fun W hW => hop _ _ a c W (i1.below hW (Nat.le_refl _)) (i3.below hW (Nat.le_refl _)) (.inl rfl) (.inl rfl) za zc hW) (fun W hW => hop _ _ a d W (i1.below hW (Nat.le_refl _)) (i4.below hW (Nat.le_refl _)) (.inl rfl) (.inr rfl) za zd hW)
    (fun W hW => hop _ _ b c W (i2.below hW (Nat.le_refl _)) (i3.below hW (Nat.le_refl _)) (.inr rfl) (.inl rfl) zb zc hW) (fun W hW => hop _ _ b d W (i2.below hW (Nat.le_refl _)) (i4.below hW (Nat.le_refl _)) (.inr rfl) (.inr rfl) zb zd hW)
    (hf _ _ (.inl rfl) (.inl rfl) za zc) (hf _ _ (.inl rfl) (.inr rfl) za zd) (hf _ _ (.inr rfl) (.inl rfl) zb zc) (hf _ _ (.inr rfl) (.inr rfl) zb zd) hj

theorem spplus_any (v1 v2 : Value) (a b c d : Rat) (k : Nat) (w : World) (h1 : IsS w v1 a b) (h2 : IsS w v2 c d) (za : Siz a k) (zb : Siz b k) (zc : Siz c k) (zd : Siz d k) (hk : ((k + k + 1 : Nat) : Int) ≤ 1073741824) (hG : Gr w) :
    Calls Tryz.prog 51 #[v1, v2] w (SpNew w (wLow (fun r s => r + s) a b c d) (wHigh (fun r s => r + s) a b c d)) := by
  have HW := Lib.hid (fun W (hW : Below w.heap.size w W) => with_op 29 (enters_of Tryz.func29 (by kernel_rfl) rfl) (fun r s => r + s) v1 v2 a b c d k (k + k + 1) W
    (fun x y r s W' hx hy _ _ z1 z2 hW' => plus_q x y r s k W' hx hy z1 z2 hk ((hG.below hW hG.size).below hW' (Nat.le_trans hG.size hW.size))) (fun r s _ _ z1 z2 => z1.add z2) (h1.below hW (Nat.le_refl _)) (h2.below hW (Nat.le_refl _)) za zb zc zd (by omega))
  obtain ⟨s1, a1, b1, p1, s2, a2, b2, p2, rfl, _, _⟩ := h1
  obtain ⟨s3, a3, b3, p3, s4, a4, b4, p4, rfl, _, _⟩ := h2
  clear za zb zc zd hk hG
  generalize wLow (fun r s => r + s) a b c d = lo at *
  generalize wHigh (fun r s => r + s) a b c d = hi at *
  go_enter Tryz.func51, Tryz.ntmps51
  go_wp2_with fail
  obtain ⟨W0, hW0, hb0, _, _, hz, hs⟩ := box88z w (.bool s1) (u a1) (u b1) (.pointer p1) (.bool s2) (u a2) (u b2) (.pointer p2) (.bool s3) (u a3) (u b3) (.pointer p3) (.bool s4) (u a4) (u b4) (.pointer p4)
  rw [hW0]
  refine (HW.out _ hb0).mono ?_
  rintro e W9 ⟨v, rfl, hv, hb⟩
  have hz9 : ZBox8 W9 (w.heap.size + 1 + 1) := Box8.below hz hb (Nat.le_refl _)
  have HB9 := Lib.hid (chain1 hb0 hb)
  clear hb0 hz hs hW0 HW
  (have hv' := hv; obtain ⟨t1, d1, e1, q1, t2, d2, e2, q2, rfl, _, _⟩ := hv'; have HFin := Lib.hid (SpNew.stored (Box8.nbox hz9) hv HB9.out (by omega) (.bool t1) (u d1) (u e1) (.pointer q1) (.bool t2) (u d2) (u e2) (.pointer q2)); (obtain ⟨z0, z1, z2, z3, z4, z5, z6, z7⟩ := Box8.cells hz9; have zf0 := Box8.frozen hz9 0; have zf1 := Box8.frozen hz9 1; have zf2 := Box8.frozen hz9 2; have zf3 := Box8.frozen hz9 3; have zf4 := Box8.frozen hz9 4; have zf5 := Box8.frozen hz9 5; have zf6 := Box8.frozen hz9 6; have zf7 := Box8.frozen hz9 7); clear hv hz9; clear hb; go_wp2_with fail; refine bodyPost_ret (v := .agg #[.bool t1, u d1, u e1, .pointer q1, .bool t2, u d2, u e2, .pointer q2]) (by simp [results, Tryz.results51, go_sem, z0, z1, z2, z3, z4, z5, z6, z7]) rfl ?_; exact HFin.out)

theorem spminus_any (v1 v2 : Value) (a b c d : Rat) (k : Nat) (w : World) (h1 : IsS w v1 a b) (h2 : IsS w v2 c d) (za : Siz a k) (zb : Siz b k) (zc : Siz c k) (zd : Siz d k) (hk : ((k + k + 1 : Nat) : Int) ≤ 1073741824) (hG : Gr w) :
    Calls Tryz.prog 53 #[v1, v2] w (SpNew w (wLow (fun r s => r - s) a b c d) (wHigh (fun r s => r - s) a b c d)) := by
  have HW := Lib.hid (fun W (hW : Below w.heap.size w W) => with_op 31 (enters_of Tryz.func31 (by kernel_rfl) rfl) (fun r s => r - s) v1 v2 a b c d k (k + k + 1) W
    (fun x y r s W' hx hy _ _ z1 z2 hW' => minus_q x y r s k W' hx hy z1 z2 hk ((hG.below hW hG.size).below hW' (Nat.le_trans hG.size hW.size))) (fun r s _ _ z1 z2 => z1.sub z2) (h1.below hW (Nat.le_refl _)) (h2.below hW (Nat.le_refl _)) za zb zc zd (by omega))
  obtain ⟨s1, a1, b1, p1, s2, a2, b2, p2, rfl, _, _⟩ := h1
  obtain ⟨s3, a3, b3, p3, s4, a4, b4, p4, rfl, _, _⟩ := h2
  clear za zb zc zd hk hG
  generalize wLow (fun r s => r - s) a b c d = lo at *
  generalize wHigh (fun r s => r - s) a b c d = hi at *
  go_enter Tryz.func53, Tryz.ntmps53
  go_wp2_with fail
  obtain ⟨W0, hW0, hb0, _, _, hz, hs⟩ := box88z w (.bool s1) (u a1) (u b1) (.pointer p1) (.bool s2) (u a2) (u b2) (.pointer p2) (.bool s3) (u a3) (u b3) (.pointer p3) (.bool s4) (u a4) (u b4) (.pointer p4)
  rw [hW0]
  refine (HW.out _ hb0).mono ?_
  rintro e W9 ⟨v, rfl, hv, hb⟩
  have hz9 : ZBox8 W9 (w.heap.size + 1 + 1) := Box8.below hz hb (Nat.le_refl _)
  have HB9 := Lib.hid (chain1 hb0 hb)
  clear hb0 hz hs hW0 HW
  (have hv' := hv; obtain ⟨t1, d1, e1, q1, t2, d2, e2, q2, rfl, _, _⟩ := hv'; have HFin := Lib.hid (SpNew.stored (Box8.nbox hz9) hv HB9.out (by omega) (.bool t1) (u d1) (u e1) (.pointer q1) (.bool t2) (u d2) (u e2) (.pointer q2)); (obtain ⟨z0, z1, z2, z3, z4, z5, z6, z7⟩ := Box8.cells hz9; have zf0 := Box8.frozen hz9 0; have zf1 := Box8.frozen hz9 1; have zf2 := Box8.frozen hz9 2; have zf3 := Box8.frozen hz9 3; have zf4 := Box8.frozen hz9 4; have zf5 := Box8.frozen hz9 5; have zf6 := Box8.frozen hz9 6; have zf7 := Box8.frozen hz9 7); clear hv hz9; clear hb; go_wp2_with fail; refine bodyPost_ret (v := .agg #[.bool t1, u d1, u e1, .pointer q1, .bool t2, u d2, u e2, .pointer q2]) (by simp [results, Tryz.results53, go_sem, z0, z1, z2, z3, z4, z5, z6, z7]) rfl ?_; exact HFin.out)

theorem sptimes_any (v1 v2 : Value) (a b c d : Rat) (k : Nat) (w : World) (h1 : IsS w v1 a b) (h2 : IsS w v2 c d) (za : Siz a k) (zb : Siz b k) (zc : Siz c k) (zd : Siz d k) (hk : ((k + k + 1 : Nat) : Int) ≤ 1073741824) (hG : Gr w) :
    Calls Tryz.prog 55 #[v1, v2] w (SpNew w (wLow (fun r s => r * s) a b c d) (wHigh (fun r s => r * s) a b c d)) := by
  have HW := Lib.hid (fun W (hW : Below w.heap.size w W) => with_op 33 (enters_of Tryz.func33 (by kernel_rfl) rfl) (fun r s => r * s) v1 v2 a b c d k (k + k) W
    (fun x y r s W' hx hy _ _ z1 z2 hW' => times_q x y r s k W' hx hy z1 z2 (by omega) ((hG.below hW hG.size).below hW' (Nat.le_trans hG.size hW.size))) (fun r s _ _ z1 z2 => z1.mul z2) (h1.below hW (Nat.le_refl _)) (h2.below hW (Nat.le_refl _)) za zb zc zd (by omega))
  obtain ⟨s1, a1, b1, p1, s2, a2, b2, p2, rfl, _, _⟩ := h1
  obtain ⟨s3, a3, b3, p3, s4, a4, b4, p4, rfl, _, _⟩ := h2
  clear za zb zc zd hk hG
  generalize wLow (fun r s => r * s) a b c d = lo at *
  generalize wHigh (fun r s => r * s) a b c d = hi at *
  go_enter Tryz.func55, Tryz.ntmps55
  go_wp2_with fail
  obtain ⟨W0, hW0, hb0, _, _, hz, hs⟩ := box88z w (.bool s1) (u a1) (u b1) (.pointer p1) (.bool s2) (u a2) (u b2) (.pointer p2) (.bool s3) (u a3) (u b3) (.pointer p3) (.bool s4) (u a4) (u b4) (.pointer p4)
  rw [hW0]
  refine (HW.out _ hb0).mono ?_
  rintro e W9 ⟨v, rfl, hv, hb⟩
  have hz9 : ZBox8 W9 (w.heap.size + 1 + 1) := Box8.below hz hb (Nat.le_refl _)
  have HB9 := Lib.hid (chain1 hb0 hb)
  clear hb0 hz hs hW0 HW
  (have hv' := hv; obtain ⟨t1, d1, e1, q1, t2, d2, e2, q2, rfl, _, _⟩ := hv'; have HFin := Lib.hid (SpNew.stored (Box8.nbox hz9) hv HB9.out (by omega) (.bool t1) (u d1) (u e1) (.pointer q1) (.bool t2) (u d2) (u e2) (.pointer q2)); (obtain ⟨z0, z1, z2, z3, z4, z5, z6, z7⟩ := Box8.cells hz9; have zf0 := Box8.frozen hz9 0; have zf1 := Box8.frozen hz9 1; have zf2 := Box8.frozen hz9 2; have zf3 := Box8.frozen hz9 3; have zf4 := Box8.frozen hz9 4; have zf5 := Box8.frozen hz9 5; have zf6 := Box8.frozen hz9 6; have zf7 := Box8.frozen hz9 7); clear hv hz9; clear hb; go_wp2_with fail; refine bodyPost_ret (v := .agg #[.bool t1, u d1, u e1, .pointer q1, .bool t2, u d2, u e2, .pointer q2]) (by simp [results, Tryz.results55, go_sem, z0, z1, z2, z3, z4, z5, z6, z7]) rfl ?_; exact HFin.out)

end Go.Proofs.YtojploidgagmgaaGreatDoor

/- Span.under: the span of the values of a function with no turn, or one. -/
namespace Go.Proofs.YtojploidgagmgaaGreatDoor
open Go Go.RowKit Go.Proofs Lim

/-- A function of one number, at a number, in all later worlds. -/
def FnAt (w : World) (g : Nat) (pre cap : Array Value) (v : Value) (t : Rat) : Prop := ∀ W, Below w.heap.size w W → Calls Tryz.prog g (pre.push v ++ cap) W (QNew W t)

theorem under_none (g : Nat) (pre cap : Array Value) (eg : ∀ args w, (callFunc g args).run Tryz.prog w = .ok (.enter g args) w) (s1 s2 : Bool) (a1 b1 a2 b2 : Nat) (p1 p2 : Option Addr) (r1 r2 : Rat) (c : Nat) (k : Nat) (w : World)
    (h1 : FnAt w g pre cap (.agg #[.bool s1, u a1, u b1, .pointer p1]) r1) (h2 : FnAt w g pre cap (.agg #[.bool s2, u a2, u b2, .pointer p2]) r2)
    (z1 : Siz r1 k) (z2 : Siz r2 k) (hk : (k : Int) ≤ 1073741824) :
    Calls Tryz.prog 116 #[.agg #[.bool s1, u a1, u b1, .pointer p1, .bool s2, u a2, u b2, .pointer p2], .func (.func g) pre cap, .slice none 0 c] w
      (SpNew w (lowOf r1 [r2]) (highOf r1 [r2])) := by
  have HA := Lib.hid (fun v sl W (hv : IsQ W v r1) (hs : QSl W sl [r2]) => around_any v sl r1 [r2] k W hv hs z1 (siz1 z2) hk (by simp))
  unfold FnAt at h1 h2
  have H1 := Lib.hid h1
  have H2 := Lib.hid h2
  clear h1 h2 z1 z2 hk
  go_enter Tryz.func116, Tryz.ntmps116
  go_wp2_with fail
  obtain ⟨W0, hW0, hb0, hX, hz, hs⟩ := box8z w (.bool s1) (u a1) (u b1) (.pointer p1) (.bool s2) (u a2) (u b2) (.pointer p2)
  rw [hW0]
  have HX := Lib.hid hX
  have HZ := Lib.hid hz
  refine (H2.out _ hb0).mono ?_
  rintro e W1 ⟨v2, rfl, hv2, hb⟩
  obtain ⟨x2, y2, y2', q2, rfl⟩ := hv2.form
  have HA1 := Lib.hid (chain1 hb0 hb)
  have HX := Lib.hid (Box8.below HX.out hb (Nat.le_refl _))
  have HZ := Lib.hid (Box8.below HZ.out hb (Nat.le_refl _))
  have HV2 := Lib.hid hv2
  have l1 : w.heap.size < W1.heap.size := HX.out.lt
  (obtain ⟨c0, c1, c2, c3, c4, c5, c6, c7⟩ := HX.out.cells)
  clear hX hz hs hW0 hb hb0 hv2
  go_wp2_with fail
  refine wp_loop_rounds 1 ?_
  rw [rounds_succ]
  go_wp2_with fail
  have hbS := below1 W1 (.cells #[.bool x2, u y2, u y2', .pointer q2] 26)
  have HSl := Lib.hid (qsl1 W1 x2 y2 y2' q2 r2 HV2.out)
  have HX := Lib.hid (Box8.below HX.out hbS (Nat.le_refl _))
  have HZ := Lib.hid (Box8.below HZ.out hbS (Nat.le_refl _))
  have HA2 := Lib.hid (chain1 HA1.out hbS)
  clear hbS c0 c1 c2 c3 c4 c5 c6 c7 l1 HV2 HA1
  obtain ⟨W2, hW2⟩ : ∃ W2, W1.alloc (.cells #[.bool x2, u y2, u y2', .pointer q2] 26) = W2 := ⟨_, rfl⟩
  rw [hW2] at HSl HX HZ HA2 ⊢
  clear hW2
  generalize W1.heap.size = bs at *
  refine (H1.out _ HA2.out).mono ?_
  rintro e W3 ⟨v1, rfl, hv1, hb⟩
  obtain ⟨x1, y1, y1', q1, rfl⟩ := hv1.form
  have HSl := Lib.hid (HSl.out.below hb (Nat.le_refl _))
  have HZ := Lib.hid (Box8.below HZ.out hb (Nat.le_refl _))
  have HA3 := Lib.hid (chain1 HA2.out hb)
  have HV1 := Lib.hid hv1
  clear hb hv1 HX HA2 H1 H2
  go_wp2_with fail
  refine (HA.out _ _ _ HV1.out HSl.out).mono ?_
  rintro e W9 ⟨v, rfl, hv, hb⟩
  have hz9 : ZBox8 W9 (w.heap.size + 1) := Box8.below HZ.out hb (Nat.le_refl _)
  have HB9 := Lib.hid (chain1 HA3.out hb)
  clear HZ HA3 HA HSl HV1
  (have hv' := hv; obtain ⟨t1, d1, e1, q1, t2, d2, e2, q2, rfl, _, _⟩ := hv'; have HFin := Lib.hid (SpNew.stored (Box8.nbox hz9) hv HB9.out (by omega) (.bool t1) (u d1) (u e1) (.pointer q1) (.bool t2) (u d2) (u e2) (.pointer q2)); (obtain ⟨z0, z1, z2, z3, z4, z5, z6, z7⟩ := Box8.cells hz9; have zf0 := Box8.frozen hz9 0; have zf1 := Box8.frozen hz9 1; have zf2 := Box8.frozen hz9 2; have zf3 := Box8.frozen hz9 3; have zf4 := Box8.frozen hz9 4; have zf5 := Box8.frozen hz9 5; have zf6 := Box8.frozen hz9 6; have zf7 := Box8.frozen hz9 7); clear hv hz9; clear hb; go_wp2_with fail; refine bodyPost_ret (v := .agg #[.bool t1, u d1, u e1, .pointer q1, .bool t2, u d2, u e2, .pointer q2]) (by simp [results, Tryz.results116, go_sem, z0, z1, z2, z3, z4, z5, z6, z7]) rfl ?_; exact HFin.out)

end Go.Proofs.YtojploidgagmgaaGreatDoor

/- Span.under with one turn. -/
namespace Go.Proofs.YtojploidgagmgaaGreatDoor
open Go Go.RowKit Go.Proofs Lim

theorem IsNat.grown {W W' : World} {row : Option Nat} {v : Value} {n : Nat} (hg : W.grownBy W' row) (hR : ∀ r, row = some r → NBox W r) (h : IsNat W v n) : IsNat W' v n := by
  obtain ⟨xs, ⟨⟨ao, c, rfl, h1, h2, hr⟩, ok, typ⟩, htr, hv⟩ := h
  have key : ∀ a : Addr, ao = some a → 0 < xs.length → W'.heap[a.block]? = W.heap[a.block]? := by
    intro a ha hn
    subst ha
    obtain ⟨cs', fr', hc⟩ := typ a _ _ rfl hn
    refine hg.block a.block (Array.getElem?_eq_some_iff.1 hc).1 ?_
    intro e
    obtain ⟨cs, t, fr, hb, ht, _⟩ := hR a.block e.symm
    rw [hb] at hc
    injection hc with hc
    injection hc with _ hc
    exact ht hc
  refine ⟨xs, ⟨⟨ao, c, rfl, h1, h2, fun hn => ?_⟩, ok, fun a n' c' e hn => ?_⟩, htr, hv⟩
  · obtain ⟨b, off, rfl, row'⟩ := hr hn
    refine ⟨b, off, rfl, fun i hi => ?_⟩
    exact (World.cell?_of_block (w := W) (a := ⟨b, off + i, none⟩) (key ⟨b, off, none⟩ rfl hn)).trans (row' i hi)
  · injection e with e1 e2 e3
    subst e1 e2 e3
    obtain ⟨cs', fr', hc⟩ := typ a _ _ rfl hn
    exact ⟨cs', fr', (key a rfl hn).trans hc⟩

theorem IsQ.grown {W W' : World} {row : Option Nat} {v : Value} {r : Rat} (hg : W.grownBy W' row) (hR : ∀ r, row = some r → NBox W r) (h : IsQ W v r) : IsQ W' v r := by
  unfold IsQ at *
  cases h with
  | low l hv hd hn hdB => exact .low l hv hd hn hdB
  | wide b x y hv hx hy h1 h2 hB h0 hd =>
    have hb : W'.heap[b]? = W.heap[b]? := by
      refine hg.block b (World.block_lt_of_cell? W _ hx) ?_
      intro e
      obtain ⟨cs, t, fr, hb, _, hz⟩ := hR b e.symm
      obtain ⟨_, _, _, rfl, _⟩ := h1.form
      rw [World.cell?, hb] at hx
      obtain ⟨s, e⟩ := hz _ hx
      cases e
    exact .wide b x y hv ((World.cell?_of_block (w := W) (a := ⟨b, 0, none⟩) hb).trans hx) ((World.cell?_of_block (w := W) (a := ⟨b, 1, none⟩) hb).trans hy) (h1.grown hg hR) (h2.grown hg hR) hB h0 hd

theorem info_q : (Tryz.prog.info? 26).map (fun i => (i.zero, i.size, i.bytes)) = some (some (.agg #[.bool false, .int .u64 0, .int .u64 0, .pointer none]), 4, 32) := by kernel_rfl

/-- A row of two numbers that is owned is a slice of numbers. -/
theorem qsl_owned2 {w w1 : World} {v : Value} {s1 s2 : Bool} {a1 b1 a2 b2 : Nat} {p1 p2 : Option Addr} {r1 r2 : Rat}
    (h : w1.ownsRow w.heap.size 26 4 v 2 [.bool s1, u a1, u b1, .pointer p1, .bool s2, u a2, u b2, .pointer p2])
    (h1 : IsQ w1 (.agg #[.bool s1, u a1, u b1, .pointer p1]) r1) (h2 : IsQ w1 (.agg #[.bool s2, u a2, u b2, .pointer p2]) r2) : QSl w1 v [r1, r2] := by
  obtain ⟨_, ⟨_, h0⟩ | ⟨g, cap, cur, rfl, _, hg, hn, hm, hs, ht⟩⟩ := h
  · cases h0
  · unfold maxLen at hm
    refine ⟨_, cap, rfl, hn, by omega, fun _ => ⟨g, 0, rfl, fun i hi => ?_⟩⟩
    have hc : ∀ j, j < 8 → w1.cell? ⟨g, j, none⟩ = ([.bool s1, u a1, u b1, .pointer p1, .bool s2, u a2, u b2, .pointer p2] : List Value)[j]? := by
      intro j hj
      rw [← ht, List.getElem?_take, if_pos (by omega)]
      simp [World.cell?, hg]
    have hi : i < 2 := hi
    rcases i with _ | _ | i
    · exact ⟨_, ⟨s1, a1, b1, p1, rfl, hc 0 (by omega), hc 1 (by omega), hc 2 (by omega), hc 3 (by omega)⟩, h1⟩
    · exact ⟨_, ⟨s2, a2, b2, p2, rfl, hc 4 (by omega), hc 5 (by omega), hc 6 (by omega), hc 7 (by omega)⟩, h2⟩
    · omega

/-- Two numbers' boxes. -/
theorem box2b (w : World) (a0 a1 a2 a3 b0 b1 b2 b3 : Value) : ∃ W, (w.alloc (.cells #[a0, a1, a2, a3] 26)).alloc (.cells #[b0, b1, b2, b3] 26) = W ∧ Below w.heap.size w W ∧ Box W w.heap.size a0 a1 a2 a3 ∧ Box W (w.heap.size + 1) b0 b1 b2 b3 ∧ W.heap.size = w.heap.size + 1 + 1 := by
  have hb1 := below1 w (.cells #[a0, a1, a2, a3] 26)
  have h1 : Box _ w.heap.size a0 a1 a2 a3 := heap_alloc_new w (.cells #[a0, a1, a2, a3] 26)
  have hs1 : (w.alloc (.cells #[a0, a1, a2, a3] 26)).heap.size = w.heap.size + 1 := World.size_alloc ..
  generalize w.alloc (.cells #[a0, a1, a2, a3] 26) = W1 at *
  have hb2 := below1 W1 (.cells #[b0, b1, b2, b3] 26)
  have h2 : Box _ W1.heap.size b0 b1 b2 b3 := heap_alloc_new W1 (.cells #[b0, b1, b2, b3] 26)
  rw [hs1] at h2
  exact ⟨_, rfl, chain1 hb1 hb2, h1.below hb2 (Nat.le_refl _), h2, by rw [World.size_alloc, hs1]⟩

/-- A number's box is a row of one. -/
theorem Box.owned {W : World} {b base : Nat} {c0 c1 c2 c3 : Value} (h : Box W b c0 c1 c2 c3) (hb : base ≤ b) : W.ownsRow base 26 4 (.slice (some ⟨b, 0, none⟩) 1 1) 1 [c0, c1, c2, c3] :=
  ⟨rfl, .inr ⟨b, 1, _, rfl, hb, h, Nat.le_refl _, by decide, rfl, rfl⟩⟩

/-- The values at the turn, if the span has it. -/
def turnVals (has : Bool) (r2 r3 : Rat) : List Rat := if has then [r2, r3] else [r2]

set_option maxHeartbeats 1000000 in
theorem under_one (g : Nat) (pre cap : Array Value) (eg : ∀ args w, (callFunc g args).run Tryz.prog w = .ok (.enter g args) w) (s1 s2 : Bool) (a1 b1 a2 b2 : Nat) (p1 p2 : Option Addr) (lo hi t r1 r2 r3 : Rat) (k : Nat) (w : World)
    (bt off ct : Nat) (s3 : Bool) (a3 b3 : Nat) (p3 : Option Addr) (i1 : IsQ w (.agg #[.bool s1, u a1, u b1, .pointer p1]) lo) (i2 : IsQ w (.agg #[.bool s2, u a2, u b2, .pointer p2]) hi) (i3 : IsQ w (.agg #[.bool s3, u a3, u b3, .pointer p3]) t)
    (k0 : w.cell? ⟨bt, off, none⟩ = some (.bool s3)) (k1 : w.cell? ⟨bt, off + 1, none⟩ = some (u a3)) (k2 : w.cell? ⟨bt, off + 2, none⟩ = some (u b3)) (k3 : w.cell? ⟨bt, off + 3, none⟩ = some (.pointer p3))
    (h1 : FnAt w g pre cap (.agg #[.bool s1, u a1, u b1, .pointer p1]) r1) (h2 : FnAt w g pre cap (.agg #[.bool s2, u a2, u b2, .pointer p2]) r2) (h3 : hasQ lo hi t = true → FnAt w g pre cap (.agg #[.bool s3, u a3, u b3, .pointer p3]) r3)
    (zl : Siz lo k) (zh : Siz hi k) (zt : Siz t k) (z1 : Siz r1 k) (z2 : Siz r2 k) (z3 : hasQ lo hi t = true → Siz r3 k) (hk : (k : Int) ≤ 1073741824) :
    Calls Tryz.prog 116 #[.agg #[.bool s1, u a1, u b1, .pointer p1, .bool s2, u a2, u b2, .pointer p2], .func (.func g) pre cap, .slice (some ⟨bt, off, none⟩) 1 ct] w
      (SpNew w (lowOf r1 (turnVals (hasQ lo hi t) r2 r3)) (highOf r1 (turnVals (hasQ lo hi t) r2 r3))) := by
  have HHas := Lib.hid (fun W (hW : Below w.heap.size w W) => has_any (.agg #[.bool s1, u a1, u b1, .pointer p1, .bool s2, u a2, u b2, .pointer p2]) (.agg #[.bool s3, u a3, u b3, .pointer p3]) lo hi t k W
    ⟨s1, a1, b1, p1, s2, a2, b2, p2, rfl, i1.below hW (Nat.le_refl _), i2.below hW (Nat.le_refl _)⟩ (i3.below hW (Nat.le_refl _)) zl zh zt hk)
  have HA := Lib.hid (fun v sl W (hv : IsQ W v r1) (hs : QSl W sl (turnVals (hasQ lo hi t) r2 r3)) => around_any v sl r1 (turnVals (hasQ lo hi t) r2 r3) k W hv hs z1 (by
    unfold turnVals
    split
    · rename_i hh
      intro x hx
      simp at hx
      rcases hx with rfl | rfl
      · exact z2
      · exact z3 hh
    · exact siz1 z2) hk (by unfold turnVals; split <;> simp))
  unfold FnAt at h1 h2 h3
  have H1 := Lib.hid h1
  have H2 := Lib.hid h2
  have H3 := Lib.hid h3
  have lt0 : bt < w.heap.size := World.block_lt_of_cell? w _ k0
  clear h1 h2 h3 z1 z2 z3 zl zh zt i1 i2 i3 hk
  generalize hasQ lo hi t = hb at *
  go_enter Tryz.func116, Tryz.ntmps116
  go_wp2_with fail
  obtain ⟨W0, hW0, hb0, hX, hz, hs⟩ := box8z w (.bool s1) (u a1) (u b1) (.pointer p1) (.bool s2) (u a2) (u b2) (.pointer p2)
  rw [hW0]
  have HX := Lib.hid hX
  have HZ := Lib.hid hz
  refine (H2.out _ hb0).mono ?_
  rintro e W1 ⟨v2, rfl, hv2, hbb⟩
  obtain ⟨x2, y2, y2', q2, rfl⟩ := hv2.form
  have hA1 := chain1 hb0 hbb
  have HX := Lib.hid (Box8.below HX.out hbb (Nat.le_refl _))
  have HZ := Lib.hid (Box8.below HZ.out hbb (Nat.le_refl _))
  have HV2 := Lib.hid hv2
  have l1 : w.heap.size < W1.heap.size := HX.out.lt
  have l2 : bt < W1.heap.size := by omega
  have k0 := (hA1.cell (p := ⟨bt, off, none⟩) lt0).trans k0
  have k1 := (hA1.cell (p := ⟨bt, off + 1, none⟩) lt0).trans k1
  have k2 := (hA1.cell (p := ⟨bt, off + 2, none⟩) lt0).trans k2
  have k3 := (hA1.cell (p := ⟨bt, off + 3, none⟩) lt0).trans k3
  have HA1 := Lib.hid hA1
  (obtain ⟨c0, c1, c2, c3, c4, c5, c6, c7⟩ := HX.out.cells)
  clear hX hz hs hW0 hbb hb0 hv2 hA1
  go_wp2_with fail
  refine wp_loop_rounds 2 ?_
  rw [rounds_succ]
  go_wp2_with fail
  have HZ1 := HZ
  obtain ⟨W2, hW2, hb2, hS, hXb, hs2⟩ := box2b W1 (.bool x2) (u y2) (u y2') (.pointer q2) (.bool s3) (u a3) (u b3) (.pointer p3)
  rw [hW2]
  have HX := Lib.hid (Box8.below HX.out hb2 (Nat.le_refl _))
  have HZ := Lib.hid (Box8.below HZ.out hb2 (Nat.le_refl _))
  have HV2 := Lib.hid (HV2.out.below hb2 (Nat.le_refl _))
  have HA2 := Lib.hid (chain1 HA1.out hb2)
  have HS := Lib.hid hS
  have HXb := Lib.hid hXb
  have hbs : w.heap.size + 1 < W1.heap.size := Box8.lt HZ1.out
  have HBs := Lib.hid hbs
  clear hW2 hb2 hS hXb hs2 c0 c1 c2 c3 c4 c5 c6 c7 k0 k1 k2 k3 l1 l2 HA1 hbs HZ1
  generalize W1.heap.size = bs at *
  refine (HHas.out _ HA2.out).mono ?_
  rintro e W3 ⟨rfl, hbb⟩
  have HX := Lib.hid (Box8.below HX.out hbb (Nat.le_refl _))
  have HZ := Lib.hid (Box8.below HZ.out hbb (Nat.le_refl _))
  have HV2 := Lib.hid (HV2.out.below hbb (Nat.le_refl _))
  have HA3 := Lib.hid (chain1 HA2.out hbb)
  have HS := Lib.hid (HS.out.below hbb (Nat.le_refl _))
  have HXb := Lib.hid (HXb.out.below hbb (Nat.le_refl _))
  (obtain ⟨c0, c1, c2, c3, c4, c5, c6, c7⟩ := HX.out.cells)
  obtain ⟨g0, g1, g2, g3⟩ := HXb.out.cells
  clear hbb HA2 HHas
  cases hb
  · have HSl : Hid (QSl W3 (.slice (some ⟨bs, 0, none⟩) 1 1) (turnVals false r2 r3)) := by
      obtain ⟨i0, i1, i2, i3⟩ := HS.out.cells
      exact ⟨_, 1, rfl, Nat.le_refl _, by decide, fun _ => ⟨bs, 0, rfl, fun i hi => by
        have : i = 0 := by simpa [turnVals] using hi
        subst this
        exact ⟨_, ⟨x2, y2, y2', q2, rfl, i0, i1, i2, i3⟩, HV2.out⟩⟩⟩
    go_wp2_with fail
    rw [rounds_succ]
    go_wp2_with fail
    refine (H1.out _ HA3.out).mono ?_
    rintro e W4 ⟨v1, rfl, hv1, hbb⟩
    obtain ⟨x1, y1, y1', q1, rfl⟩ := hv1.form
    have HSl := Lib.hid (HSl.out.below hbb (Nat.le_refl _))
    have HZ := Lib.hid (Box8.below HZ.out hbb (Nat.le_refl _))
    have HA4 := Lib.hid (chain1 HA3.out hbb)
    have HV1 := Lib.hid hv1
    clear hbb hv1 HX HA3 H1 H2 H3 c0 c1 c2 c3 c4 c5 c6 c7 g0 g1 g2 g3
    go_wp2_with fail
    refine (HA.out _ _ _ HV1.out HSl.out).mono ?_
    rintro e W9 ⟨v, rfl, hv, hb⟩
    have hz9 : ZBox8 W9 (w.heap.size + 1) := Box8.below HZ.out hb (Nat.le_refl _)
    have HB9 := Lib.hid (chain1 HA4.out hb)
    clear HZ HA4 HA HSl HV1
    (have hv' := hv; obtain ⟨t1, d1, e1, q1, t2, d2, e2, q2, rfl, _, _⟩ := hv'; have HFin := Lib.hid (SpNew.stored (Box8.nbox hz9) hv HB9.out (by omega) (.bool t1) (u d1) (u e1) (.pointer q1) (.bool t2) (u d2) (u e2) (.pointer q2)); (obtain ⟨z0, z1, z2, z3, z4, z5, z6, z7⟩ := Box8.cells hz9; have zf0 := Box8.frozen hz9 0; have zf1 := Box8.frozen hz9 1; have zf2 := Box8.frozen hz9 2; have zf3 := Box8.frozen hz9 3; have zf4 := Box8.frozen hz9 4; have zf5 := Box8.frozen hz9 5; have zf6 := Box8.frozen hz9 6; have zf7 := Box8.frozen hz9 7); clear hv hz9; clear hb; go_wp2_with fail; refine bodyPost_ret (v := .agg #[.bool t1, u d1, u e1, .pointer q1, .bool t2, u d2, u e2, .pointer q2]) (by simp [results, Tryz.results116, go_sem, z0, z1, z2, z3, z4, z5, z6, z7]) rfl ?_; exact HFin.out)
  · have HT := Lib.hid (H3.out rfl)
    clear H3
    go_wp2_with fail
    refine (HT.out _ HA3.out).mono ?_
    rintro e W4 ⟨v3, rfl, hv3, hbb⟩
    obtain ⟨x3, y3, y3', q3, rfl⟩ := hv3.form
    have HX := Lib.hid (Box8.below HX.out hbb (Nat.le_refl _))
    have HZ := Lib.hid (Box8.below HZ.out hbb (Nat.le_refl _))
    have HV2 := Lib.hid (HV2.out.below hbb (Nat.le_refl _))
    have HA4 := Lib.hid (chain1 HA3.out hbb)
    have HS := Lib.hid (HS.out.below hbb (Nat.le_refl _))
    have HV3 := Lib.hid hv3
    obtain ⟨i0, hi, hz0, hz1, hz2⟩ := info_parts info_q
    have hsz : w.heap.size ≤ W4.heap.size := HA4.out.size
    have HSz := Lib.hid hsz
    clear hbb hv3 HXb HA3 HT c0 c1 c2 c3 c4 c5 c6 c7 g0 g1 g2 g3 hsz k0 k1 k2 k3
    go_wp2_with (at_builtin; refine wpList_append_own _ rfl _ _ 91 rfl w.heap.size 26 i0 _ 4 32 Tryz.underlying91 hi hz0 hz1 hz2 rfl (by decide) _ _ _ rfl ((Box.owned HS.out (by have := HBs.out; omega)).alloc _) ⟨W4.heap.size, 0, none⟩ 1 1 [.bool x3, u y3, u y3', .pointer q3] rfl ?qc1 ?qc2 ?qc3 ?qc4 ?qc5 ?qc6 ?_)
    case qc1 => rfl
    case qc2 =>
      intro j v hj
      rcases j with _ | _ | _ | _ | j
      all_goals (simp at hj; try subst hj)
      all_goals exact World.cell?_alloc_new ..
    case qc3 => intro v hv; simp at hv; rcases hv with rfl | rfl | rfl | rfl <;> rfl
    case qc4 => decide
    case qc5 => decide
    case qc6 => have := HSz.out; simp; omega
    intro v' w1 hown hgrow hnil
    have hbx := below1 W4 (.cells #[.bool x3, u y3, u y3', .pointer q3] 26)
    have hNB : ∀ r, (Value.slice (some ⟨bs, 0, none⟩) 1 1).ownBlock = some r → NBox (W4.alloc (.cells #[.bool x3, u y3, u y3', .pointer q3] 26)) r := by
      intro r e
      injection e with e
      subst e
      exact Box.nbox (HS.out.below hbx (Nat.le_refl _))
    have hV2 := (HV2.out.below hbx (Nat.le_refl _)).grown hgrow hNB
    have hV3 := (HV3.out.below hbx (Nat.le_refl _)).grown hgrow hNB
    have hsl : QSl w1 v' (turnVals true r2 r3) := qsl_owned2 hown hV2 hV3
    have hx := (Box8.below HX.out hbx (Nat.le_refl _))
    have hz := (Box8.below HZ.out hbx (Nat.le_refl _))
    have hx1 : Box8 w1 _ _ _ _ _ _ _ _ _ := hx.of_block (hgrow.block _ hx.lt (by intro e; injection e with e; have e : _ = bs := e; have := HBs.out; omega))
    have hzz : ZBox8 w1 _ := Box8.of_block hz (hgrow.block _ (Box8.lt hz) (by intro e; injection e with e; have e : _ = bs := e; have := HBs.out; omega))
    have hA5 : Below w.heap.size w w1 := (chain1 HA4.out hbx).grown hgrow (Nat.le_trans HA4.out.size hbx.size) (by intro k' e; injection e with e; have e : bs = k' := e; have := HBs.out; omega)
    have HSl := Lib.hid hsl
    have HX := Lib.hid hx1
    have HZ := Lib.hid hzz
    have HA5 := Lib.hid hA5
    obtain ⟨ao, cp, rfl, hcp1, hcp2, _⟩ := hsl
    have e2 : (turnVals true r2 r3).length = 2 := rfl
    rw [e2] at HSl ⊢
    (obtain ⟨c0, c1, c2, c3, c4, c5, c6, c7⟩ := HX.out.cells)
    clear hbx hNB hV2 hV3 hx hz hx1 hzz hz1
    clear hA5 hown hgrow hnil HV2 HV3 HS HA4
    clear e2 hcp1 hcp2
    clear hz0 hz2 hi
    go_wp2_with fail
    rw [rounds_succ]
    go_wp2_with fail
    refine (H1.out _ HA5.out).mono ?_
    rintro e W6 ⟨v1, rfl, hv1, hbb⟩
    obtain ⟨x1, y1, y1', q1, rfl⟩ := hv1.form
    have HSl := Lib.hid (HSl.out.below hbb (Nat.le_refl _))
    have HZ := Lib.hid (Box8.below HZ.out hbb (Nat.le_refl _))
    have HA6 := Lib.hid (chain1 HA5.out hbb)
    have HV1 := Lib.hid hv1
    clear hbb hv1 HX HA5 H1 H2 c0 c1 c2 c3 c4 c5 c6 c7
    go_wp2_with fail
    refine (HA.out _ _ _ HV1.out HSl.out).mono ?_
    rintro e W9 ⟨v, rfl, hv, hb⟩
    have hz9 : ZBox8 W9 (w.heap.size + 1) := Box8.below HZ.out hb (Nat.le_refl _)
    have HB9 := Lib.hid (chain1 HA6.out hb)
    clear HZ HA6 HA HSl HV1
    (have hv' := hv; obtain ⟨t1, d1, e1, q1, t2, d2, e2, q2, rfl, _, _⟩ := hv'; have HFin := Lib.hid (SpNew.stored (Box8.nbox hz9) hv HB9.out (by omega) (.bool t1) (u d1) (u e1) (.pointer q1) (.bool t2) (u d2) (u e2) (.pointer q2)); (obtain ⟨z0, z1, z2, z3, z4, z5, z6, z7⟩ := Box8.cells hz9; have zf0 := Box8.frozen hz9 0; have zf1 := Box8.frozen hz9 1; have zf2 := Box8.frozen hz9 2; have zf3 := Box8.frozen hz9 3; have zf4 := Box8.frozen hz9 4; have zf5 := Box8.frozen hz9 5; have zf6 := Box8.frozen hz9 6; have zf7 := Box8.frozen hz9 7); clear hv hz9; clear hb; go_wp2_with fail; refine bodyPost_ret (v := .agg #[.bool t1, u d1, u e1, .pointer q1, .bool t2, u d2, u e2, .pointer q2]) (by simp [results, Tryz.results116, go_sem, z0, z1, z2, z3, z4, z5, z6, z7]) rfl ?_; exact HFin.out)

end Go.Proofs.YtojploidgagmgaaGreatDoor

/- Span.Square, Span.Abs. -/
namespace Go.Proofs.YtojploidgagmgaaGreatDoor
open Go Go.RowKit Go.Proofs Lim

theorem square1 (v : Value) (r : Rat) (k : Nat) (w : World) (h : IsQ w v r) (z : Siz r k) (hk : (k : Int) ≤ 1073741824) (hG : Gr w) :
    Calls Tryz.prog 117 #[v] w (QNew w (r * r)) := by
  have HT := Lib.hid (fun W (hW : Below w.heap.size w W) => times_q v v r r k W (h.below hW (Nat.le_refl _)) (h.below hW (Nat.le_refl _)) z z hk (hG.below hW hG.size))
  obtain ⟨s1, a1, b1, p1, rfl⟩ := h.form
  clear h z hk hG
  generalize r * r = t at *
  go_enter Tryz.func117, Tryz.ntmps117
  go_wp2_with fail
  obtain ⟨W0, hW0, hb0, hx0, hz⟩ := box2w w (.bool s1) (u a1) (u b1) (.pointer p1); rw [← hW0]; clear hW0; obtain ⟨f0, f1, f2, f3⟩ := hx0.cells; have HZ := Lib.hid hz; have HW0 := Lib.hid hb0; have hb0 := Below.refl W0.heap.size W0; clear hz hx0; have n1 : ¬ w.heap.size = w.heap.size + 1 := (by omega); have n2 : ¬ w.heap.size + 1 = w.heap.size := (by omega)
  refine (HT.out _ (chain1 HW0.out hb0)).mono ?_
  rintro e W9 ⟨v, rfl, hv, hb⟩
  have hb3 := chain1 hb0 hb
  have hv' := hv
  obtain ⟨sg9, a9, b9, p9, rfl⟩ := hv'.form
  have hz := HZ.out.below hb3 (Nat.le_refl _)
  have hfin := QNew.stored (a0 := .bool sg9) (a1 := u a9) (a2 := u b9) (a3 := .pointer p9) hz hv (chain1 HW0.out hb3) (by omega)
  have HFin := Lib.hid hfin
  (have hz := HZ.out.below hb3 (Nat.le_refl _); have zf := hz.frozen; obtain ⟨z0, z1, z2, z3⟩ := hz.cells; have zf0 := zf 0; have zf1 := zf 1; have zf2 := zf 2; have zf3 := zf 3; clear zf hz)
  clear hfin hv hv' hb hb0 hb3 hz HT f0 f1 f2 f3
  go_wp2_with fail
  refine bodyPost_ret (v := .agg #[.bool sg9, u a9, u b9, .pointer p9]) (by simp [results, Tryz.results117, go_sem, z0, z1, z2, z3]) rfl ?_
  exact HFin.out

theorem siz_zero_bits {r : Rat} (k : Nat) (h : Siz r k) : 1 ≤ k := by
  rcases Nat.eq_zero_or_pos k with e | e
  · subst e
    have := h.2
    have := r.den_pos
    rw [Nat.pow_zero] at *
    omega
  · exact e

theorem zero_val (w : World) : IsQ w (.agg #[.bool false, .int .u64 0, .int .u64 0, .pointer none]) 0 := Num.low 0 rfl rfl B_pos (show 1 < B by decide)

theorem square_any (v : Value) (lo hi : Rat) (k : Nat) (w : World) (h : IsS w v lo hi) (z1 : Siz lo k) (z2 : Siz hi k) (hk : ((k + k : Nat) : Int) ≤ 1073741824) (hG : Gr w) :
    Calls Tryz.prog 62 #[v] w (SpNew w (lowOf (lo * lo) (turnVals (hasQ lo hi 0) (hi * hi) (0 * 0))) (highOf (lo * lo) (turnVals (hasQ lo hi 0) (hi * hi) (0 * 0)))) := by
  have k1 := siz_zero_bits k z1
  have z0 : Siz 0 k := Siz.zero k k1
  obtain ⟨s1, a1, b1, p1, s2, a2, b2, p2, rfl, i1, i2⟩ := h
  have HU := Lib.hid (fun bt ct W (hW : Below w.heap.size w W) c0 c1 c2 c3 => under_one 117 #[] #[] (enters_of Tryz.func117 (by kernel_rfl) rfl) s1 s2 a1 b1 a2 b2 p1 p2 lo hi 0 (lo * lo) (hi * hi) (0 * 0) (k + k) W
    bt 0 ct false 0 0 none (i1.below hW (Nat.le_refl _)) (i2.below hW (Nat.le_refl _)) (zero_val W) c0 c1 c2 c3
    (fun W' hW' => square1 _ lo k W' ((i1.below hW (Nat.le_refl _)).below hW' (Nat.le_refl _)) z1 (by omega) ((hG.below hW hG.size).below hW' (Nat.le_trans hG.size hW.size)))
    (fun W' hW' => square1 _ hi k W' ((i2.below hW (Nat.le_refl _)).below hW' (Nat.le_refl _)) z2 (by omega) ((hG.below hW hG.size).below hW' (Nat.le_trans hG.size hW.size)))
    (fun _ W' hW' => square1 _ 0 k W' (zero_val W') z0 (by omega) ((hG.below hW hG.size).below hW' (Nat.le_trans hG.size hW.size)))
    (z1.le (by omega)) (z2.le (by omega)) (z0.le (by omega)) (z1.mul z1) (z2.mul z2) (fun _ => z0.mul z0) hk)
  clear i1 i2 z1 z2 z0 k1 hk hG
  generalize lowOf (lo * lo) (turnVals (hasQ lo hi 0) (hi * hi) (0 * 0)) = l at *
  generalize highOf (lo * lo) (turnVals (hasQ lo hi 0) (hi * hi) (0 * 0)) = g at *
  go_enter Tryz.func62, Tryz.ntmps62
  go_wp2_with fail
  obtain ⟨W0, hW0, hb0, _, hz, hs⟩ := box8z w (.bool s1) (u a1) (u b1) (.pointer p1) (.bool s2) (u a2) (u b2) (.pointer p2)
  rw [hW0]
  have hb1 := below1 W0 (.cells #[.bool false, .int .u64 0, .int .u64 0, .pointer none] 26)
  rw [← hs]
  refine (HU.out _ 1 _ (chain1 hb0 hb1) (World.cell?_alloc_new ..) (World.cell?_alloc_new ..) (World.cell?_alloc_new ..) (World.cell?_alloc_new ..)).mono ?_
  rintro e W9 ⟨v, rfl, hv, hb⟩
  have hz9 : ZBox8 W9 (w.heap.size + 1) := Box8.below (Box8.below hz hb1 (Nat.le_refl _)) hb (Nat.le_refl _)
  have HB9 := Lib.hid (chain1 (chain1 hb0 hb1) hb)
  rw [hs]
  clear hb0 hz hs hW0 HU hb1
  (have hv' := hv; obtain ⟨t1, d1, e1, q1, t2, d2, e2, q2, rfl, _, _⟩ := hv'; have HFin := Lib.hid (SpNew.stored (Box8.nbox hz9) hv HB9.out (by omega) (.bool t1) (u d1) (u e1) (.pointer q1) (.bool t2) (u d2) (u e2) (.pointer q2)); (obtain ⟨z0, z1, z2, z3, z4, z5, z6, z7⟩ := Box8.cells hz9; have zf0 := Box8.frozen hz9 0; have zf1 := Box8.frozen hz9 1; have zf2 := Box8.frozen hz9 2; have zf3 := Box8.frozen hz9 3; have zf4 := Box8.frozen hz9 4; have zf5 := Box8.frozen hz9 5; have zf6 := Box8.frozen hz9 6; have zf7 := Box8.frozen hz9 7); clear hv hz9; clear hb; go_wp2_with fail; refine bodyPost_ret (v := .agg #[.bool t1, u d1, u e1, .pointer q1, .bool t2, u d2, u e2, .pointer q2]) (by simp [results, Tryz.results62, go_sem, z0, z1, z2, z3, z4, z5, z6, z7]) rfl ?_; exact HFin.out)

end Go.Proofs.YtojploidgagmgaaGreatDoor

/- Quadratic: the span of the values of a x x + b x + c. -/
namespace Go.Proofs.YtojploidgagmgaaGreatDoor
open Go Go.RowKit Go.Proofs Lim

/-- The value at a number, as the code reckons it. -/
def quadAt (a b c x : Rat) : Rat := (a * x + b) * x + c

/-- Three numbers' boxes that a function has captured. -/
structure Caught (w : World) (b1 b2 b3 : Nat) (s1 s2 s3 : Bool) (x1 y1 x2 y2 x3 y3 : Nat) (p1 p2 p3 : Option Addr) (a b c : Rat) : Prop where
  c1 : Box w b1 (.bool s1) (u x1) (u y1) (.pointer p1)
  c2 : Box w b2 (.bool s2) (u x2) (u y2) (.pointer p2)
  c3 : Box w b3 (.bool s3) (u x3) (u y3) (.pointer p3)
  q1 : IsQ w (.agg #[.bool s1, u x1, u y1, .pointer p1]) a
  q2 : IsQ w (.agg #[.bool s2, u x2, u y2, .pointer p2]) b
  q3 : IsQ w (.agg #[.bool s3, u x3, u y3, .pointer p3]) c

theorem Caught.below {w w' : World} {b1 b2 b3 : Nat} {s1 s2 s3 : Bool} {x1 y1 x2 y2 x3 y3 : Nat} {p1 p2 p3 : Option Addr} {a b c : Rat} {k : Nat} (h : Caught w b1 b2 b3 s1 s2 s3 x1 y1 x2 y2 x3 y3 p1 p2 p3 a b c) (hb : Below k w w') (hk : w.heap.size ≤ k) :
    Caught w' b1 b2 b3 s1 s2 s3 x1 y1 x2 y2 x3 y3 p1 p2 p3 a b c :=
  ⟨h.c1.below hb hk, h.c2.below hb hk, h.c3.below hb hk, h.q1.below hb hk, h.q2.below hb hk, h.q3.below hb hk⟩

set_option maxHeartbeats 1000000 in
theorem quad1 (v : Value) (b1 b2 b3 : Nat) (s1 s2 s3 : Bool) (x1 y1 x2 y2 x3 y3 : Nat) (p1 p2 p3 : Option Addr) (a b c x : Rat) (k : Nat) (w : World) (hc : Caught w b1 b2 b3 s1 s2 s3 x1 y1 x2 y2 x3 y3 p1 p2 p3 a b c) (h : IsQ w v x)
    (za : Siz a k) (zb : Siz b k) (zc : Siz c k) (zx : Siz x k) (hk : ((8 * k + 8 : Nat) : Int) ≤ 1073741824) (hG : Gr w) :
    Calls Tryz.prog 119 #[v, .pointer (some ⟨b1, 0, none⟩), .pointer (some ⟨b2, 0, none⟩), .pointer (some ⟨b3, 0, none⟩)] w (QNew w (quadAt a b c x)) := by
  have w1 := za.mul zx
  have w2 := w1.add zb
  have w3 := (w2.le (show k + k + k + 1 ≤ 4 * k + 1 by omega)).mul (zx.le (show k ≤ 4 * k + 1 by omega))
  have HT1 := Lib.hid (fun W (hW : Below w.heap.size w W) => times_q _ v a x k W (hc.q1.below hW (Nat.le_refl _)) (h.below hW (Nat.le_refl _)) za zx (by omega) (hG.below hW hG.size))
  have HP1 := Lib.hid (fun y W (hy : IsQ W y (a * x)) (hW : Below w.heap.size w W) => plus_q y _ (a * x) b (k + k) W hy (hc.q2.below hW (Nat.le_refl _)) w1 (zb.le (by omega)) (by omega) (hG.below hW hG.size))
  have HT2 := Lib.hid (fun y W (hy : IsQ W y (a * x + b)) (hW : Below w.heap.size w W) => times_q y v (a * x + b) x (k + k + k + 1) W hy (h.below hW (Nat.le_refl _)) w2 (zx.le (by omega)) (by omega) (hG.below hW hG.size))
  have w3' := w2.mul zx
  have HP2 := Lib.hid (fun y W (hy : IsQ W y ((a * x + b) * x)) (hW : Below w.heap.size w W) => plus_q y _ ((a * x + b) * x) c (k + k + k + 1 + k) W hy (hc.q3.below hW (Nat.le_refl _)) w3' (zc.le (by omega)) (by omega) (hG.below hW hG.size))
  obtain ⟨s, d, e, p, rfl⟩ := h.form
  have HC := Lib.hid hc
  unfold quadAt
  have m1 : b1 < w.heap.size := (Array.getElem?_eq_some_iff.1 hc.c1).1
  have m2 : b2 < w.heap.size := (Array.getElem?_eq_some_iff.1 hc.c2).1
  have m3 : b3 < w.heap.size := (Array.getElem?_eq_some_iff.1 hc.c3).1
  clear h hc w1 w2 w3 w3' za zb zc zx hk hG
  generalize a * x = r1 at *
  generalize r1 + b = r2 at *
  generalize r2 * x = r3 at *
  generalize r3 + c = r4 at *
  go_enter Tryz.func119, Tryz.ntmps119
  go_wp2_with fail
  obtain ⟨W0, hW0, hb0, hx0, hz⟩ := box2w w (.bool s) (u d) (u e) (.pointer p); rw [← hW0]; clear hW0; obtain ⟨f0, f1, f2, f3⟩ := hx0.cells; have HZ := Lib.hid hz; have HW0 := Lib.hid hb0; have hb0 := Below.refl W0.heap.size W0; clear hz hx0; have n1 : ¬ w.heap.size = w.heap.size + 1 := (by omega); have n2 : ¬ w.heap.size + 1 = w.heap.size := (by omega)
  have hc0 := HC.out.below HW0.out (Nat.le_refl _)
  have HC0 := Lib.hid hc0
  obtain ⟨g0, g1, g2, g3⟩ := hc0.c1.cells
  obtain ⟨h0, h1, h2, h3⟩ := hc0.c2.cells
  obtain ⟨i0, i1, i2, i3⟩ := hc0.c3.cells
  clear hc0
  have n3 : ¬ b1 = w.heap.size + 1 := by omega
  have n4 : ¬ w.heap.size + 1 = b1 := by omega
  have n5 : ¬ b2 = w.heap.size + 1 := by omega
  have n6 : ¬ w.heap.size + 1 = b2 := by omega
  have n7 : ¬ b3 = w.heap.size + 1 := by omega
  have n8 : ¬ w.heap.size + 1 = b3 := by omega
  go_region_held3 (fun w' => (w'.cell? ⟨w.heap.size, 0, none⟩ = some (.bool s) ∧ w'.cell? ⟨w.heap.size, 1, none⟩ = some (u d) ∧ w'.cell? ⟨w.heap.size, 2, none⟩ = some (u e) ∧ w'.cell? ⟨w.heap.size, 3, none⟩ = some (.pointer p)) ∧ (w'.cell? ⟨b1, 0, none⟩ = some (.bool s1) ∧ w'.cell? ⟨b1, 1, none⟩ = some (u x1) ∧ w'.cell? ⟨b1, 2, none⟩ = some (u y1) ∧ w'.cell? ⟨b1, 3, none⟩ = some (.pointer p1)) ∧ (w'.cell? ⟨b2, 0, none⟩ = some (.bool s2) ∧ w'.cell? ⟨b2, 1, none⟩ = some (u x2) ∧ w'.cell? ⟨b2, 2, none⟩ = some (u y2) ∧ w'.cell? ⟨b2, 3, none⟩ = some (.pointer p2)) ∧ (w'.cell? ⟨b3, 0, none⟩ = some (.bool s3) ∧ w'.cell? ⟨b3, 1, none⟩ = some (u x3) ∧ w'.cell? ⟨b3, 2, none⟩ = some (u y3) ∧ w'.cell? ⟨b3, 3, none⟩ = some (.pointer p3))) (go_keep) (first | ((with_reducible refine (HT1.out _ HW0.out.drew).mono ?_); rintro e W1 ⟨v1, rfl, hv1, hb⟩; obtain ⟨_, _, _, _, rfl⟩ := hv1.form; (have hh := boxq (b := w.heap.size) hb f0 f1 f2 f3; clear f0 f1 f2 f3; obtain ⟨f0, f1, f2, f3⟩ := hh); have hb0 : Below W0.heap.size W0 W1 := (by first | exact chain hb0 hb | exact chain1 hb0 hb); have hcc := HC0.out.below hb0 (Nat.le_refl _); clear g0 g1 g2 g3 h0 h1 h2 h3 i0 i1 i2 i3; obtain ⟨g0, g1, g2, g3⟩ := hcc.c1.cells; obtain ⟨h0, h1, h2, h3⟩ := hcc.c2.cells; obtain ⟨i0, i1, i2, i3⟩ := hcc.c3.cells; clear hcc hb) | ((with_reducible refine (HP1.out _ _ hv1 (chain1 HW0.out hb0)).mono ?_); rintro e W2 ⟨v2, rfl, hv2, hb⟩; obtain ⟨_, _, _, _, rfl⟩ := hv2.form; (have hh := boxq (b := w.heap.size) hb f0 f1 f2 f3; clear f0 f1 f2 f3; obtain ⟨f0, f1, f2, f3⟩ := hh); have hb0 : Below W0.heap.size W0 W2 := (by first | exact chain hb0 hb | exact chain1 hb0 hb); have hcc := HC0.out.below hb0 (Nat.le_refl _); clear g0 g1 g2 g3 h0 h1 h2 h3 i0 i1 i2 i3; obtain ⟨g0, g1, g2, g3⟩ := hcc.c1.cells; obtain ⟨h0, h1, h2, h3⟩ := hcc.c2.cells; obtain ⟨i0, i1, i2, i3⟩ := hcc.c3.cells; clear hcc hb) | ((with_reducible refine (HT2.out _ _ hv2 (chain1 HW0.out hb0)).mono ?_); rintro e W3 ⟨v3, rfl, hv3, hb⟩; obtain ⟨_, _, _, _, rfl⟩ := hv3.form; (have hh := boxq (b := w.heap.size) hb f0 f1 f2 f3; clear f0 f1 f2 f3; obtain ⟨f0, f1, f2, f3⟩ := hh); have hb0 : Below W0.heap.size W0 W3 := (by first | exact chain hb0 hb | exact chain1 hb0 hb); have hcc := HC0.out.below hb0 (Nat.le_refl _); clear g0 g1 g2 g3 h0 h1 h2 h3 i0 i1 i2 i3; obtain ⟨g0, g1, g2, g3⟩ := hcc.c1.cells; obtain ⟨h0, h1, h2, h3⟩ := hcc.c2.cells; obtain ⟨i0, i1, i2, i3⟩ := hcc.c3.cells; clear hcc hb) | ((with_reducible refine (HP2.out _ _ hv3 (chain1 HW0.out hb0)).mono ?_); rintro e W4 ⟨v4, rfl, hv4, hb⟩; have hv' := hv4; obtain ⟨sg9, a9, b9, p9, rfl⟩ := hv'.form; (have hh := boxq (b := w.heap.size) hb f0 f1 f2 f3; clear f0 f1 f2 f3; obtain ⟨f0, f1, f2, f3⟩ := hh); have hb0 : Below W0.heap.size W0 W4 := (by first | exact chain hb0 hb | exact chain1 hb0 hb); have hcc := HC0.out.below hb0 (Nat.le_refl _); clear g0 g1 g2 g3 h0 h1 h2 h3 i0 i1 i2 i3; obtain ⟨g0, g1, g2, g3⟩ := hcc.c1.cells; obtain ⟨h0, h1, h2, h3⟩ := hcc.c2.cells; obtain ⟨i0, i1, i2, i3⟩ := hcc.c3.cells; clear hcc hb; (have hz := HZ.out.below hb0 (Nat.le_refl _); have zf := hz.frozen; obtain ⟨z0, z1, z2, z3⟩ := hz.cells; have zf0 := zf 0; have zf1 := zf 1; have zf2 := zf 2; have zf3 := zf 3; clear zf hz)))
  have hz := HZ.out.below hb0 (Nat.le_refl _)
  have hfin := QNew.stored (a0 := .bool sg9) (a1 := u a9) (a2 := u b9) (a3 := .pointer p9) hz hv4 (chain1 HW0.out hb0) (by omega)
  have HFin := Lib.hid hfin
  clear hfin hv1 hv2 hv3 hv4 hv' hb0 hz f0 f1 f2 f3 g0 g1 g2 g3 h0 h1 h2 h3 i0 i1 i2 i3
  go_wp2_with fail
  refine bodyPost_ret (v := .agg #[.bool sg9, u a9, u b9, .pointer p9]) (by simp [results, Tryz.results119, go_sem, z0, z1, z2, z3]) rfl ?_
  exact HFin.out

end Go.Proofs.YtojploidgagmgaaGreatDoor

/- Quadratic: the span of the values on a span. -/
namespace Go.Proofs.YtojploidgagmgaaGreatDoor
open Go Go.RowKit Go.Proofs Lim

/-- Where a quadratic turns. -/
def turnOf (a b : Rat) : Rat := -b * (a + a)⁻¹

/-- The values at the turn and at the upper end. -/
def quadVals (a b c lo hi : Rat) : List Rat := if a.num = 0 then [quadAt a b c hi] else turnVals (hasQ lo hi (turnOf a b)) (quadAt a b c hi) (quadAt a b c (turnOf a b))

/-- Three numbers' boxes, that of a span and that of a result. -/
theorem box38z (w : World) (a0 a1 a2 a3 b0 b1 b2 b3 c0 c1 c2 c3 d0 d1 d2 d3 d4 d5 d6 d7 : Value) : ∃ W, ((((w.alloc (.cells #[a0, a1, a2, a3] 26)).alloc (.cells #[b0, b1, b2, b3] 26)).alloc (.cells #[c0, c1, c2, c3] 26)).alloc (.cells #[d0, d1, d2, d3, d4, d5, d6, d7] 66)).alloc (.cells #[.bool false, .int .u64 0, .int .u64 0, .pointer none, .bool false, .int .u64 0, .int .u64 0, .pointer none] 66) = W ∧
    Below w.heap.size w W ∧ Box W w.heap.size a0 a1 a2 a3 ∧ Box W (w.heap.size + 1) b0 b1 b2 b3 ∧ Box W (w.heap.size + 1 + 1) c0 c1 c2 c3 ∧ Box8 W (w.heap.size + 1 + 1 + 1) d0 d1 d2 d3 d4 d5 d6 d7 ∧ ZBox8 W (w.heap.size + 1 + 1 + 1 + 1) ∧ W.heap.size = w.heap.size + 1 + 1 + 1 + 1 + 1 := by
  obtain ⟨W1, hW1, hb1, h1, h2, hs1⟩ := box2b w a0 a1 a2 a3 b0 b1 b2 b3
  have hb2 := below1 W1 (.cells #[c0, c1, c2, c3] 26)
  have h3 : Box _ W1.heap.size c0 c1 c2 c3 := heap_alloc_new W1 (.cells #[c0, c1, c2, c3] 26)
  have hs2 : (W1.alloc (.cells #[c0, c1, c2, c3] 26)).heap.size = w.heap.size + 1 + 1 + 1 := by rw [World.size_alloc, hs1]
  rw [hs1] at h3
  rw [hW1]
  generalize W1.alloc (.cells #[c0, c1, c2, c3] 26) = W2 at *
  obtain ⟨W3, hW3, hb3, h4, h5, hs3⟩ := box8z W2 d0 d1 d2 d3 d4 d5 d6 d7
  rw [hs2] at h4 h5 hs3
  exact ⟨W3, hW3, chain1 (chain1 hb1 hb2) hb3, (h1.below hb2 (Nat.le_refl _)).below hb3 (Nat.le_refl _), (h2.below hb2 (Nat.le_refl _)).below hb3 (Nat.le_refl _), h3.below hb3 (Nat.le_refl _), h4, h5, hs3⟩

theorem quad_siz {a b c x : Rat} {k : Nat} (za : Siz a k) (zb : Siz b k) (zc : Siz c k) (zx : Siz x k) : Siz (quadAt a b c x) (5 * k + 2) :=
  (((((za.mul zx).add zb).mul zx).add zc)).le (by omega)

theorem turn_siz {a b : Rat} {k : Nat} (za : Siz a k) (zb : Siz b k) (h : (a + a).num ≠ 0) : Siz (turnOf a b) (3 * k + 1) :=
  (zb.neg.mul ((za.add za).inv h)).le (by omega)

theorem double_ne {a : Rat} (h : a.num ≠ 0) : (a + a).num ≠ 0 := by
  intro e
  have h2 : a + a = 0 := Rat.num_eq_zero.1 e
  have h3 : a * 2 = 0 := by
    rw [← h2]
    grind
  rcases Rat.mul_eq_zero.1 h3 with h4 | h4
  · exact h (by rw [h4]; rfl)
  · exact absurd h4 (by decide)

set_option maxHeartbeats 2000000 in
theorem quadratic_any (va vb vc vs : Value) (a b c lo hi : Rat) (k : Nat) (w : World) (ha : IsQ w va a) (hb : IsQ w vb b) (hc : IsQ w vc c) (hs : IsS w vs lo hi)
    (za : Siz a k) (zb : Siz b k) (zc : Siz c k) (zl : Siz lo k) (zh : Siz hi k) (hk : ((100 * k + 100 : Nat) : Int) ≤ 1073741824) (hG : Gr w) :
    Calls Tryz.prog 74 #[va, vb, vc, vs] w (SpNew w (lowOf (quadAt a b c lo) (quadVals a b c lo hi)) (highOf (quadAt a b c lo) (quadVals a b c lo hi))) := by
  obtain ⟨s1, x1, y1, p1, rfl⟩ := ha.form
  obtain ⟨s2, x2, y2, p2, rfl⟩ := hb.form
  obtain ⟨s3, x3, y3, p3, rfl⟩ := hc.form
  obtain ⟨s4, x4, y4, p4, s5, x5, y5, p5, rfl, hl, hh⟩ := hs
  have HQ := Lib.hid (fun W (hW : Below w.heap.size w W) (e1 : Box W w.heap.size (.bool s1) (u x1) (u y1) (.pointer p1)) (e2 : Box W (w.heap.size + 1) (.bool s2) (u x2) (u y2) (.pointer p2)) (e3 : Box W (w.heap.size + 1 + 1) (.bool s3) (u x3) (u y3) (.pointer p3)) =>
    (⟨e1, e2, e3, ha.below hW (Nat.le_refl _), hb.below hW (Nat.le_refl _), hc.below hW (Nat.le_refl _)⟩ : Caught W w.heap.size (w.heap.size + 1) (w.heap.size + 1 + 1) s1 s2 s3 x1 y1 x2 y2 x3 y3 p1 p2 p3 a b c))
  have HF := Lib.hid (fun v x j W (hca : Caught W w.heap.size (w.heap.size + 1) (w.heap.size + 1 + 1) s1 s2 s3 x1 y1 x2 y2 x3 y3 p1 p2 p3 a b c) (hv : IsQ W v x) (zx : Siz x j) (hj : k ≤ j) (hj2 : j ≤ 3 * k + 1) (hW : Below w.heap.size w W) =>
    quad1 v w.heap.size (w.heap.size + 1) (w.heap.size + 1 + 1) s1 s2 s3 x1 y1 x2 y2 x3 y3 p1 p2 p3 a b c x j W hca hv (za.le hj) (zb.le hj) (zc.le hj) zx (by omega) (hG.below hW hG.size))
  have HSg := Lib.hid (fun W (hW : Below w.heap.size w W) => sign_q _ a W (ha.below hW (Nat.le_refl _)))
  have HL := Lib.hid (And.intro hl hh)
  by_cases h0 : a.num = 0
  · have hv : quadVals a b c lo hi = [quadAt a b c hi] := by unfold quadVals; rw [if_pos h0]
    rw [hv]
    have HU := Lib.hid (fun W W0 (hW : Below w.heap.size w W) (hca : Caught W w.heap.size (w.heap.size + 1) (w.heap.size + 1 + 1) s1 s2 s3 x1 y1 x2 y2 x3 y3 p1 p2 p3 a b c) (_ : W0 = W) =>
      under_none 119 #[] #[.pointer (some ⟨w.heap.size, 0, none⟩), .pointer (some ⟨w.heap.size + 1, 0, none⟩), .pointer (some ⟨w.heap.size + 1 + 1, 0, none⟩)] (enters_of Tryz.func119 (by kernel_rfl) rfl) s4 s5 x4 y4 x5 y5 p4 p5 (quadAt a b c lo) (quadAt a b c hi) 0 (5 * k + 2) W
      (fun W' hW' => HF.out _ lo k W' (hca.below hW' (Nat.le_refl _)) ((hl.below hW (Nat.le_refl _)).below hW' (Nat.le_refl _)) zl (Nat.le_refl _) (by omega) (hW.trans (hW'.mono hW.size)))
      (fun W' hW' => HF.out _ hi k W' (hca.below hW' (Nat.le_refl _)) ((hh.below hW (Nat.le_refl _)).below hW' (Nat.le_refl _)) zh (Nat.le_refl _) (by omega) (hW.trans (hW'.mono hW.size)))
      (quad_siz za zb zc zl) (quad_siz za zb zc zh) (by omega))
    have hsg : ((sign a : Int) == 0) = true := by unfold sign; rw [if_pos h0]; rfl
    clear ha hb hc hl hh hG za zb zc zl zh hk hv h0 HF
    generalize quadAt a b c lo = l at *
    generalize quadAt a b c hi = g at *
    generalize lowOf l [g] = lw at *
    generalize highOf l [g] = hg at *
    generalize sign a = sv at *
    go_enter Tryz.func74, Tryz.ntmps74
    go_wp2_with fail
    obtain ⟨W0, hW0, hb0, e1, e2, e3, e4, hz, hs⟩ := box38z w (.bool s1) (u x1) (u y1) (.pointer p1) (.bool s2) (u x2) (u y2) (.pointer p2) (.bool s3) (u x3) (u y3) (.pointer p3) (.bool s4) (u x4) (u y4) (.pointer p4) (.bool s5) (u x5) (u y5) (.pointer p5)
    rw [hW0]
    have HCa := Lib.hid (HQ.out W0 hb0 e1 e2 e3)
    refine (HSg.out _ hb0).mono ?_
    rintro e W1 ⟨rfl, hbb⟩
    have HCa := Lib.hid (HCa.out.below hbb (Nat.le_refl _))
    have HB1 := Lib.hid (chain1 hb0 hbb)
    have hX := Box8.below e4 hbb (Nat.le_refl _)
    have HZ := Lib.hid (Box8.below hz hbb (Nat.le_refl _))
    (obtain ⟨c0, c1, c2, c3, c4, c5, c6, c7⟩ := hX.cells)
    clear hX hbb hb0 e1 e2 e3 e4 hz hs hW0 HSg HQ
    go_wp2_with fail
    refine (HU.out _ _ HB1.out HCa.out rfl).mono ?_
    rintro e W9 ⟨v, rfl, hv, hb⟩
    have hz9 : ZBox8 W9 (w.heap.size + 1 + 1 + 1 + 1) := Box8.below HZ.out hb (Nat.le_refl _)
    have HB9 := Lib.hid (chain1 HB1.out hb)
    clear HZ HB1 HCa HU c0 c1 c2 c3 c4 c5 c6 c7
    (have hv' := hv; obtain ⟨t1, d1, e1, q1, t2, d2, e2, q2, rfl, _, _⟩ := hv'; have HFin := Lib.hid (SpNew.stored (Box8.nbox hz9) hv HB9.out (by omega) (.bool t1) (u d1) (u e1) (.pointer q1) (.bool t2) (u d2) (u e2) (.pointer q2)); (obtain ⟨z0, z1, z2, z3, z4, z5, z6, z7⟩ := Box8.cells hz9; have zf0 := Box8.frozen hz9 0; have zf1 := Box8.frozen hz9 1; have zf2 := Box8.frozen hz9 2; have zf3 := Box8.frozen hz9 3; have zf4 := Box8.frozen hz9 4; have zf5 := Box8.frozen hz9 5; have zf6 := Box8.frozen hz9 6; have zf7 := Box8.frozen hz9 7); clear hv hz9; clear hb; go_wp2_with fail; refine bodyPost_ret (v := .agg #[.bool t1, u d1, u e1, .pointer q1, .bool t2, u d2, u e2, .pointer q2]) (by simp [results, Tryz.results74, go_sem, z0, z1, z2, z3, z4, z5, z6, z7]) rfl ?_; exact HFin.out)
  · have hv : quadVals a b c lo hi = turnVals (hasQ lo hi (turnOf a b)) (quadAt a b c hi) (quadAt a b c (turnOf a b)) := by unfold quadVals; rw [if_neg h0]
    rw [hv]
    have hd := double_ne h0
    have zt := turn_siz za zb hd
    have HU := Lib.hid (fun bt ct s6 x6 y6 p6 W (hW : Below w.heap.size w W) (hca : Caught W w.heap.size (w.heap.size + 1) (w.heap.size + 1 + 1) s1 s2 s3 x1 y1 x2 y2 x3 y3 p1 p2 p3 a b c) (ht : IsQ W (.agg #[.bool s6, u x6, u y6, .pointer p6]) (turnOf a b)) c0 c1 c2 c3 =>
      under_one 119 #[] #[.pointer (some ⟨w.heap.size, 0, none⟩), .pointer (some ⟨w.heap.size + 1, 0, none⟩), .pointer (some ⟨w.heap.size + 1 + 1, 0, none⟩)] (enters_of Tryz.func119 (by kernel_rfl) rfl) s4 s5 x4 y4 x5 y5 p4 p5 lo hi (turnOf a b) (quadAt a b c lo) (quadAt a b c hi) (quadAt a b c (turnOf a b)) (5 * (3 * k + 1) + 2) W
      bt 0 ct s6 x6 y6 p6 (hl.below hW (Nat.le_refl _)) (hh.below hW (Nat.le_refl _)) ht c0 c1 c2 c3
      (fun W' hW' => HF.out _ lo k W' (hca.below hW' (Nat.le_refl _)) ((hl.below hW (Nat.le_refl _)).below hW' (Nat.le_refl _)) zl (Nat.le_refl _) (by omega) (hW.trans (hW'.mono hW.size)))
      (fun W' hW' => HF.out _ hi k W' (hca.below hW' (Nat.le_refl _)) ((hh.below hW (Nat.le_refl _)).below hW' (Nat.le_refl _)) zh (Nat.le_refl _) (by omega) (hW.trans (hW'.mono hW.size)))
      (fun _ W' hW' => HF.out _ (turnOf a b) (3 * k + 1) W' (hca.below hW' (Nat.le_refl _)) (ht.below hW' (Nat.le_refl _)) zt (by omega) (Nat.le_refl _) (hW.trans (hW'.mono hW.size)))
      (zl.le (by omega)) (zh.le (by omega)) (zt.le (by omega)) ((quad_siz za zb zc zl).le (by omega)) ((quad_siz za zb zc zh).le (by omega)) (fun _ => quad_siz (za.le (by omega)) (zb.le (by omega)) (zc.le (by omega)) zt) (by omega))
    have HN := Lib.hid (fun W (hW : Below w.heap.size w W) => neg_q _ b W (hb.below hW (Nat.le_refl _)))
    have HP := Lib.hid (fun W (hW : Below w.heap.size w W) => plus_q _ _ a a k W (ha.below hW (Nat.le_refl _)) (ha.below hW (Nat.le_refl _)) za za (by omega) (hG.below hW hG.size))
    have HR := Lib.hid (fun v W (hv : IsQ W v (a + a)) => recip_q v _ W hv hd)
    have HT := Lib.hid (fun v1 v2 W (h1 : IsQ W v1 (-b)) (h2 : IsQ W v2 (a + a)⁻¹) (hW : Below w.heap.size w W) => show Calls Tryz.prog 33 #[v1, v2] W (QNew W (turnOf a b)) from times_q v1 v2 (-b) (a + a)⁻¹ (k + k + 1) W h1 h2 (zb.neg.le (by omega)) ((za.add za).inv hd) (by omega) (hG.below hW hG.size))
    have hsg : ((sign a : Int) == 0) = false := by unfold sign; rw [if_neg h0]; split <;> rfl
    clear ha hb hc hl hh hG za zb zc zl zh hk hv h0 HF zt hd
    generalize turnOf a b = t at *
    generalize hasQ lo hi t = hq at *
    generalize quadAt a b c lo = l at *
    generalize quadAt a b c hi = g at *
    generalize quadAt a b c t = g2 at *
    generalize lowOf l (turnVals hq g g2) = lw at *
    generalize highOf l (turnVals hq g g2) = hg at *
    generalize sign a = sv at *
    generalize (a + a)⁻¹ = ri at *
    generalize a + a = aa at *
    generalize -b = nb at *
    go_enter Tryz.func74, Tryz.ntmps74
    go_wp2_with fail
    obtain ⟨W0, hW0, hb0, e1, e2, e3, e4, hz, hs⟩ := box38z w (.bool s1) (u x1) (u y1) (.pointer p1) (.bool s2) (u x2) (u y2) (.pointer p2) (.bool s3) (u x3) (u y3) (.pointer p3) (.bool s4) (u x4) (u y4) (.pointer p4) (.bool s5) (u x5) (u y5) (.pointer p5)
    rw [hW0]
    have HCa := Lib.hid (HQ.out W0 hb0 e1 e2 e3)
    refine (HSg.out _ hb0).mono ?_
    rintro e W1 ⟨rfl, hbb⟩
    have HCa := Lib.hid (HCa.out.below hbb (Nat.le_refl _))
    have HB1 := Lib.hid (chain1 hb0 hbb)
    have hX := Box8.below e4 hbb (Nat.le_refl _)
    have HX := Lib.hid hX
    have HZ := Lib.hid (Box8.below hz hbb (Nat.le_refl _))
    have HC1 := Lib.hid HCa.out.c1
    have HC2 := Lib.hid HCa.out.c2
    obtain ⟨g0, g1, g2', g3⟩ := HC1.out.cells
    obtain ⟨h0, h1, h2, h3⟩ := HC2.out.cells
    (obtain ⟨c0, c1, c2, c3, c4, c5, c6, c7⟩ := hX.cells)
    have n1 : ¬ w.heap.size = w.heap.size + 1 + 1 + 1 + 1 := by omega
    have n2 : ¬ w.heap.size + 1 + 1 + 1 + 1 = w.heap.size := by omega
    have n3 : ¬ w.heap.size + 1 = w.heap.size + 1 + 1 + 1 + 1 := by omega
    have n4 : ¬ w.heap.size + 1 + 1 + 1 + 1 = w.heap.size + 1 := by omega
    have n5 : ¬ w.heap.size + 1 + 1 + 1 = w.heap.size + 1 + 1 + 1 + 1 := by omega
    have n6 : ¬ w.heap.size + 1 + 1 + 1 + 1 = w.heap.size + 1 + 1 + 1 := by omega
    have n7 : ¬ w.heap.size = w.heap.size + 1 + 1 + 1 := by omega
    have n8 : ¬ w.heap.size + 1 + 1 + 1 = w.heap.size := by omega
    clear hX hbb hb0 e1 e2 e3 e4 hz hs hW0 HSg HQ
    have hb0 := Below.refl W1.heap.size W1
    go_wp2_with fail
    go_region_held3 (fun w' => (w'.cell? ⟨w.heap.size, 0, none⟩ = some (.bool s1) ∧ w'.cell? ⟨w.heap.size, 1, none⟩ = some (u x1) ∧ w'.cell? ⟨w.heap.size, 2, none⟩ = some (u y1) ∧ w'.cell? ⟨w.heap.size, 3, none⟩ = some (.pointer p1)) ∧ (w'.cell? ⟨w.heap.size + 1, 0, none⟩ = some (.bool s2) ∧ w'.cell? ⟨w.heap.size + 1, 1, none⟩ = some (u x2) ∧ w'.cell? ⟨w.heap.size + 1, 2, none⟩ = some (u y2) ∧ w'.cell? ⟨w.heap.size + 1, 3, none⟩ = some (.pointer p2)) ∧ (w'.cell? ⟨w.heap.size + 1 + 1 + 1, 0, none⟩ = some (.bool s4) ∧ w'.cell? ⟨w.heap.size + 1 + 1 + 1, 1, none⟩ = some (u x4) ∧ w'.cell? ⟨w.heap.size + 1 + 1 + 1, 2, none⟩ = some (u y4) ∧ w'.cell? ⟨w.heap.size + 1 + 1 + 1, 3, none⟩ = some (.pointer p4) ∧ w'.cell? ⟨w.heap.size + 1 + 1 + 1, 4, none⟩ = some (.bool s5) ∧ w'.cell? ⟨w.heap.size + 1 + 1 + 1, 5, none⟩ = some (u x5) ∧ w'.cell? ⟨w.heap.size + 1 + 1 + 1, 6, none⟩ = some (u y5) ∧ w'.cell? ⟨w.heap.size + 1 + 1 + 1, 7, none⟩ = some (.pointer p5))) (go_keep) (first | ((with_reducible refine (HN.out _ HB1.out.drew).mono ?_); rintro e W2 ⟨v2, rfl, hv2, hb⟩; obtain ⟨_, _, _, _, rfl⟩ := hv2.form; have hb0 : Below W1.heap.size W1 W2 := (by first | exact chain hb0 hb | exact chain1 hb0 hb); clear g0 g1 g2' g3 h0 h1 h2 h3 c0 c1 c2 c3 c4 c5 c6 c7; obtain ⟨g0, g1, g2', g3⟩ := (HC1.out.below hb0 (Nat.le_refl _)).cells; obtain ⟨h0, h1, h2, h3⟩ := (HC2.out.below hb0 (Nat.le_refl _)).cells; have hX := Box8.below HX.out hb0 (Nat.le_refl _); (obtain ⟨c0, c1, c2, c3, c4, c5, c6, c7⟩ := hX.cells); clear hX hb) | ((with_reducible refine (HP.out _ (chain1 HB1.out hb0)).mono ?_); rintro e W3 ⟨v3, rfl, hv3, hb⟩; obtain ⟨_, _, _, _, rfl⟩ := hv3.form; have hv2 := hv2.below hb (Nat.le_refl _); have hb0 : Below W1.heap.size W1 W3 := (by first | exact chain hb0 hb | exact chain1 hb0 hb); clear g0 g1 g2' g3 h0 h1 h2 h3 c0 c1 c2 c3 c4 c5 c6 c7; obtain ⟨g0, g1, g2', g3⟩ := (HC1.out.below hb0 (Nat.le_refl _)).cells; obtain ⟨h0, h1, h2, h3⟩ := (HC2.out.below hb0 (Nat.le_refl _)).cells; have hX := Box8.below HX.out hb0 (Nat.le_refl _); (obtain ⟨c0, c1, c2, c3, c4, c5, c6, c7⟩ := hX.cells); clear hX hb) | ((with_reducible refine (HR.out _ _ hv3).mono ?_); rintro e W4 ⟨v4, rfl, hv4, hb⟩; obtain ⟨_, _, _, _, rfl⟩ := hv4.form; have hv2 := hv2.below hb (Nat.le_refl _); have hb0 : Below W1.heap.size W1 W4 := (by first | exact chain hb0 hb | exact chain1 hb0 hb); clear g0 g1 g2' g3 h0 h1 h2 h3 c0 c1 c2 c3 c4 c5 c6 c7; obtain ⟨g0, g1, g2', g3⟩ := (HC1.out.below hb0 (Nat.le_refl _)).cells; obtain ⟨h0, h1, h2, h3⟩ := (HC2.out.below hb0 (Nat.le_refl _)).cells; have hX := Box8.below HX.out hb0 (Nat.le_refl _); (obtain ⟨c0, c1, c2, c3, c4, c5, c6, c7⟩ := hX.cells); clear hX hb) | ((with_reducible refine (HT.out _ _ _ hv2 hv4 (chain1 HB1.out hb0)).mono ?_); rintro e W5 ⟨v5, rfl, hv5, hb⟩; obtain ⟨s6, x6, y6, p6, rfl⟩ := hv5.form; have hb0 : Below W1.heap.size W1 W5 := (by first | exact chain hb0 hb | exact chain1 hb0 hb); clear g0 g1 g2' g3 h0 h1 h2 h3 c0 c1 c2 c3 c4 c5 c6 c7; obtain ⟨g0, g1, g2', g3⟩ := (HC1.out.below hb0 (Nat.le_refl _)).cells; obtain ⟨h0, h1, h2, h3⟩ := (HC2.out.below hb0 (Nat.le_refl _)).cells; have hX := Box8.below HX.out hb0 (Nat.le_refl _); (obtain ⟨c0, c1, c2, c3, c4, c5, c6, c7⟩ := hX.cells); clear hX hb) | ((with_reducible refine (HU.out _ 1 _ _ _ _ _ (chain1 (chain1 HB1.out hb0) (below1 W5 _)) (HCa.out.below (chain1 hb0 (below1 W5 _)) (Nat.le_refl _)) (hv5.below (below1 W5 _) (Nat.le_refl _)) (World.cell?_alloc_new ..) (World.cell?_alloc_new ..) (World.cell?_alloc_new ..) (World.cell?_alloc_new ..)).mono ?_); rintro e W9 ⟨v, rfl, hv, hb'⟩; have hb := chain1 (below1 W5 _) hb'; clear hb'; have hb0 : Below W1.heap.size W1 W9 := (by first | exact chain hb0 hb | exact chain1 hb0 hb); clear g0 g1 g2' g3 h0 h1 h2 h3 c0 c1 c2 c3 c4 c5 c6 c7; obtain ⟨g0, g1, g2', g3⟩ := (HC1.out.below hb0 (Nat.le_refl _)).cells; obtain ⟨h0, h1, h2, h3⟩ := (HC2.out.below hb0 (Nat.le_refl _)).cells; have hX := Box8.below HX.out hb0 (Nat.le_refl _); (obtain ⟨c0, c1, c2, c3, c4, c5, c6, c7⟩ := hX.cells); clear hX hb; have hv' := hv; obtain ⟨t1, d1, e1, q1, t2, d2, e2, q2, rfl, _, _⟩ := hv'; have hz9 := Box8.below HZ.out hb0 (Nat.le_refl _); (obtain ⟨z0, z1, z2, z3, z4, z5, z6, z7⟩ := Box8.cells hz9; have zf0 := Box8.frozen hz9 0; have zf1 := Box8.frozen hz9 1; have zf2 := Box8.frozen hz9 2; have zf3 := Box8.frozen hz9 3; have zf4 := Box8.frozen hz9 4; have zf5 := Box8.frozen hz9 5; have zf6 := Box8.frozen hz9 6; have zf7 := Box8.frozen hz9 7)))
    have HFin := Lib.hid (SpNew.stored (Box8.nbox hz9) hv (chain1 HB1.out hb0) (by omega) (.bool t1) (u d1) (u e1) (.pointer q1) (.bool t2) (u d2) (u e2) (.pointer q2))
    clear hv hz9 hb0 hv2 hv3 hv4 hv5 c0 c1 c2 c3 c4 c5 c6 c7 g0 g1 g2' g3 h0 h1 h2 h3
    go_wp2_with fail
    refine bodyPost_ret (v := .agg #[.bool t1, u d1, u e1, .pointer q1, .bool t2, u d2, u e2, .pointer q2]) (by simp [results, Tryz.results74, go_sem, z0, z1, z2, z3, z4, z5, z6, z7]) rfl ?_
    exact HFin.out

end Go.Proofs.YtojploidgagmgaaGreatDoor

/- The closed numbers of the examples. -/
namespace Go.Proofs.YtojploidgagmgaaGreatDoor
open Go Go.RowKit Go.Proofs Lim

theorem nt_small : ntext 0 = [48] ∧ ntext 1 = [49] ∧ ntext 2 = [50] ∧ ntext 3 = [51] ∧ ntext 4 = [52] ∧ ntext 8 = [56] := by
  refine ⟨?_, ?_, ?_, ?_, ?_, ?_⟩ <;> simp [ntext, digs_pos, digs_zero, dbyte]

theorem qtext_of {r : Rat} {i : Int} {d : Nat} (h1 : r.num = i) (h2 : r.den = d) : qtext r = (if i < 0 then [45] else []) ++ ntext i.natAbs ++ (if d = 1 then [] else 47 :: ntext d) := by
  unfold qtext
  rw [h1, h2]

abbrev qi (i : Int) : Rat := (i : Rat)

theorem kx : qtext (qi 6 / qi (-4)) = [45, 51, 47, 50] := by
  rw [qtext_of (i := -3) (d := 2) (by kernel_rfl) (by kernel_rfl)]
  show [45] ++ ntext 3 ++ (47 :: ntext 2) = _
  rw [nt_small.2.2.2.1, nt_small.2.2.1]; rfl
theorem kxf : qtext (((qi 6 / qi (-4)).floor : Int) : Rat) = [45, 50] := by
  rw [show (qi 6 / qi (-4)).floor = -2 by kernel_rfl, qtext_of (i := -2) (d := 1) rfl rfl]
  show [45] ++ ntext 2 ++ [] = _
  rw [nt_small.2.2.1]; rfl
theorem kxc : qtext (((qi 6 / qi (-4)).ceil : Int) : Rat) = [45, 49] := by
  rw [show (qi 6 / qi (-4)).ceil = -1 by kernel_rfl, qtext_of (i := -1) (d := 1) rfl rfl]
  show [45] ++ ntext 1 ++ [] = _
  rw [nt_small.2.1]; rfl
theorem kread : readQ [54, 47, 52] = (0, 4) := by
  refine (readQ_some (r := mkRat 3 2) (by decide) (by kernel_rfl)).trans (if_neg ?_)
  rw [qtext_of (i := 3) (d := 2) (by kernel_rfl) (by kernel_rfl)]
  show ¬ ([] ++ ntext 3 ++ (47 :: ntext 2) = _)
  rw [nt_small.2.2.2.1, nt_small.2.2.1]
  decide

/-- s is the span from -1 to 2, t that of its products with 3 to 4. -/
theorem ks : lowOf (qi 2) [qi (-1)] = qi (-1) ∧ highOf (qi 2) [qi (-1)] = qi 2 := ⟨by kernel_rfl, by kernel_rfl⟩
theorem kr : lowOf (qi 3) [qi 4] = qi 3 ∧ highOf (qi 3) [qi 4] = qi 4 := ⟨by kernel_rfl, by kernel_rfl⟩
theorem kv : lowOf (qi 0) [qi 3] = qi 0 ∧ highOf (qi 0) [qi 3] = qi 3 := ⟨by kernel_rfl, by kernel_rfl⟩
theorem kt : wLow (fun r s => r * s) (qi (-1)) (qi 2) (qi 3) (qi 4) = qi (-4) ∧ wHigh (fun r s => r * s) (qi (-1)) (qi 2) (qi 3) (qi 4) = qi 8 := ⟨by kernel_rfl, by kernel_rfl⟩
theorem kq : lowOf (qi (-1) * qi (-1)) (turnVals (hasQ (qi (-1)) (qi 2) 0) (qi 2 * qi 2) (0 * 0)) = qi 0 := by kernel_rfl
theorem ku : lowOf (quadAt (qi 1) (qi (-2)) (qi 0) (qi 0)) (quadVals (qi 1) (qi (-2)) (qi 0) (qi 0) (qi 3)) = qi (-1) ∧ highOf (quadAt (qi 1) (qi (-2)) (qi 0) (qi 0)) (quadVals (qi 1) (qi (-2)) (qi 0) (qi 0) (qi 3)) = qi 3 := ⟨by kernel_rfl, by kernel_rfl⟩

theorem kt4 : qtext (qi (-4)) = [45, 52] := by
  rw [qtext_of (i := -4) (d := 1) rfl rfl]
  show [45] ++ ntext 4 ++ [] = _
  rw [nt_small.2.2.2.2.1]; rfl
theorem kt8 : qtext (qi 8) = [56] := by
  rw [qtext_of (i := 8) (d := 1) rfl rfl]
  show [] ++ ntext 8 ++ [] = _
  rw [nt_small.2.2.2.2.2]; rfl
theorem kt0 : qtext (qi 0) = [48] := by
  rw [qtext_of (i := 0) (d := 1) rfl rfl]
  show [] ++ ntext 0 ++ [] = _
  rw [nt_small.1]; rfl
theorem kt1 : qtext (qi (-1)) = [45, 49] := by
  rw [qtext_of (i := -1) (d := 1) rfl rfl]
  show [45] ++ ntext 1 ++ [] = _
  rw [nt_small.2.1]; rfl
theorem kt3 : qtext (qi 3) = [51] := by
  rw [qtext_of (i := 3) (d := 1) rfl rfl]
  show [] ++ ntext 3 ++ [] = _
  rw [nt_small.2.2.2.1]; rfl

theorem siz_qi (i : Int) (h1 : -9223372036854775808 ≤ i) (h2 : i ≤ 9223372036854775807) : Siz (qi i) 1 := siz_int i h1 h2

end Go.Proofs.YtojploidgagmgaaGreatDoor

/- known: the examples of the document. -/
namespace Go.Proofs.YtojploidgagmgaaGreatDoor
open Go Go.RowKit Go.Proofs Lim

theorem newbox8 (w : World) (c0 c1 c2 c3 c4 c5 c6 c7 : Value) : ∃ W, w.alloc (.cells #[c0, c1, c2, c3, c4, c5, c6, c7] 66) = W ∧ Below w.heap.size w W ∧ Box8 W w.heap.size c0 c1 c2 c3 c4 c5 c6 c7 :=
  ⟨_, rfl, below1 w _, Box8.new w c0 c1 c2 c3 c4 c5 c6 c7⟩

/-- A new box of a span behind w0. -/
def ZAt (w0 W : World) (m : Nat) : Prop := w0.heap.size ≤ m ∧ ZBox8 W m

theorem ZAt.keep {w0 W W' : World} {m : Nat} (h : ZAt w0 W m) (hb : Below W.heap.size W W') : ZAt w0 W' m := ⟨h.1, Box8.below h.2 hb (Nat.le_refl _)⟩
theorem ZAt.new {w0 W W' : World} (hb0 : Below w0.heap.size w0 W) (hb : Below (W.alloc (.cells #[.bool false, .int .u64 0, .int .u64 0, .pointer none, .bool false, .int .u64 0, .int .u64 0, .pointer none] 66)).heap.size (W.alloc (.cells #[.bool false, .int .u64 0, .int .u64 0, .pointer none, .bool false, .int .u64 0, .int .u64 0, .pointer none] 66)) W') : ZAt w0 W' W.heap.size :=
  ⟨hb0.size, Box8.below (Box8.new W _ _ _ _ _ _ _ _) hb (Nat.le_refl _)⟩

theorem ZAt.drew {w0 W W' : World} (hb0 : Below w0.heap.size w0 W) (hb : Below (W.alloc (.cells #[.bool false, .int .u64 0, .int .u64 0, .pointer none, .bool false, .int .u64 0, .int .u64 0, .pointer none] 66)).drew.heap.size (W.alloc (.cells #[.bool false, .int .u64 0, .int .u64 0, .pointer none, .bool false, .int .u64 0, .int .u64 0, .pointer none] 66)).drew W') : ZAt w0 W' W.heap.size :=
  ⟨hb0.size, Box8.below (W := (W.alloc (.cells #[.bool false, .int .u64 0, .int .u64 0, .pointer none, .bool false, .int .u64 0, .int .u64 0, .pointer none] 66)).drew) (show Box8 (W.alloc (.cells #[.bool false, .int .u64 0, .int .u64 0, .pointer none, .bool false, .int .u64 0, .int .u64 0, .pointer none] 66)) _ _ _ _ _ _ _ _ _ from Box8.new W _ _ _ _ _ _ _ _) hb (Nat.le_refl _)⟩

/-- What a drawn statement t := ... of a span leaves. -/
def KBox (w0 : World) (lo hi : Rat) (s : Value) (wx : World) : Prop := ∃ m t1 ta tb tp t2 tc td tq, s = .pointer (some ⟨m, 0, none⟩) ∧ Box8 wx m (.bool t1) (u ta) (u tb) (.pointer tp) (.bool t2) (u tc) (u td) (.pointer tq) ∧
  IsQ wx (.agg #[.bool t1, u ta, u tb, .pointer tp]) lo ∧ IsQ wx (.agg #[.bool t2, u tc, u td, .pointer tq]) hi ∧ Below w0.heap.size w0 wx

theorem KBox.stored {w0 W : World} {R : Nat} {lo hi : Rat} {t1 t2 : Bool} {ta tb tc td : Nat} {tp tq : Option Addr} (hR : ZAt w0 W R) (h : IsS W (.agg #[.bool t1, u ta, u tb, .pointer tp, .bool t2, u tc, u td, .pointer tq]) lo hi) (hb : Below w0.heap.size w0 W) :
    KBox w0 lo hi (.pointer (some ⟨R, 0, none⟩)) ((((((((W.setCell ⟨R, 0, none⟩ (.bool t1)).setCell ⟨R, 1, none⟩ (u ta)).setCell ⟨R, 2, none⟩ (u tb)).setCell ⟨R, 3, none⟩ (.pointer tp)).setCell ⟨R, 4, none⟩ (.bool t2)).setCell ⟨R, 5, none⟩ (u tc)).setCell ⟨R, 6, none⟩ (u td)).setCell ⟨R, 7, none⟩ (.pointer tq)) := by
  have ho := only8 W R (.bool t1) (u ta) (u tb) (.pointer tp) (.bool t2) (u tc) (u td) (.pointer tq)
  obtain ⟨_, _, _, _, _, _, _, _, he, h1, h2⟩ := h
  simp only [Value.agg.injEq, Array.mk.injEq, List.cons.injEq, and_true] at he
  obtain ⟨e1, e2, e3, e4, e5, e6, e7, e8⟩ := he
  rw [← e1, ← e2, ← e3, ← e4] at h1
  rw [← e5, ← e6, ← e7, ← e8] at h2
  exact ⟨R, t1, ta, tb, tp, t2, tc, td, tq, rfl, Box8.setHigh (Box8.setLow hR.2 _ _ _ _) _ _ _ _, h1.other (Box8.nbox hR.2) ho, h2.other (Box8.nbox hR.2) ho, hb.trans (ho.below hR.1)⟩

theorem KBox.fresh {w0 W : World} {lo hi : Rat} {t1 t2 : Bool} {ta tb tc td : Nat} {tp tq : Option Addr} (h : IsS W (.agg #[.bool t1, u ta, u tb, .pointer tp, .bool t2, u tc, u td, .pointer tq]) lo hi) (hb : Below w0.heap.size w0 W) :
    KBox w0 lo hi (.pointer (some ⟨W.heap.size, 0, none⟩)) (W.alloc (.cells #[.bool t1, u ta, u tb, .pointer tp, .bool t2, u tc, u td, .pointer tq] 66)) := by
  obtain ⟨_, _, _, _, _, _, _, _, he, h1, h2⟩ := h
  simp only [Value.agg.injEq, Array.mk.injEq, List.cons.injEq, and_true] at he
  obtain ⟨e1, e2, e3, e4, e5, e6, e7, e8⟩ := he
  rw [← e1, ← e2, ← e3, ← e4] at h1
  rw [← e5, ← e6, ← e7, ← e8] at h2
  exact ⟨W.heap.size, t1, ta, tb, tp, t2, tc, td, tq, rfl, Box8.new W _ _ _ _ _ _ _ _, h1.below (below1 W _) (Nat.le_refl _), h2.below (below1 W _) (Nat.le_refl _), chain1 hb (below1 W _)⟩

theorem field_low (s1 s2 : Bool) (a b c d : Nat) (p q : Option Addr) (W : World) : (Instr.field 66 (.agg #[.bool s1, u a, u b, .pointer p, .bool s2, u c, u d, .pointer q]) 0).run Tryz.prog W = .ok (.agg #[.bool s1, u a, u b, .pointer p]) W := by kernel_rfl

end Go.Proofs.YtojploidgagmgaaGreatDoor

/- known: the examples of the document. -/
namespace Go.Proofs.YtojploidgagmgaaGreatDoor
open Go Go.RowKit Go.Proofs Lim

set_option maxHeartbeats 2000000 in
theorem known_any (w : World) (hG : Gr w) : Calls Tryz.prog 14 #[] w (Val w (.bool true)) := by
  have HG := Lib.hid (fun W (hW : Below w.heap.size w W) => hG.below hW hG.size)
  clear hG
  have HOf := Lib.hid (fun W hG => of_q 6 (-4) (by decide) (by decide) (by decide) (by decide) W hG)
  have HRd := Lib.hid (fun W hG => show Calls Tryz.prog 15 #[.string ⟨#[54, 47, 52]⟩] W (ReadPost W [54, 47, 52]) from read_any [54, 47, 52] W (by decide) hG)
  go_enter Tryz.func14, Tryz.ntmps14
  go_wp2_with fail
  refine (HOf.out _ (HG.out _ (Below.refl _ _))).mono ?_
  rintro e W1 (⟨h0, _⟩ | ⟨_, vx, rfl, hx, hb⟩)
  · exact absurd h0 (by decide)
  have HA1 := Lib.hid hb
  have HX := Lib.hid hx
  obtain ⟨sx, ax, bx, px, rfl⟩ := hx.form
  clear hb hx HOf
  go_wp2_with fail
  obtain ⟨W2, hW, hb, ⟨f0, f1, f2, f3⟩⟩ := box1 W1 (.bool sx) (u ax) (u bx) (.pointer px); rw [← hW]; clear hW
  have HA2 := Lib.hid (chain1 HA1.out hb)
  have HX := Lib.hid (HX.out.below hb (Nat.le_refl _))
  clear hb HA1
  generalize W1.heap.size = n1 at *
  refine (HRd.out _ (HG.out _ HA2.out)).mono ?_
  rintro e W3 ⟨v0, rfl, h0, hb⟩
  (have hh := boxq (b := n1) hb f0 f1 f2 f3; clear f0 f1 f2 f3; obtain ⟨f0, f1, f2, f3⟩ := hh)
  rw [kread] at h0 ⊢
  obtain ⟨s0, a0, b0, p0, rfl⟩ := h0.form
  have HA3 := Lib.hid (chain1 HA2.out hb)
  have HX := Lib.hid (HX.out.below hb (Nat.le_refl _))
  clear hb HA2 HRd h0
  have l1 : n1 < W3.heap.size := World.block_lt_of_cell? W3 _ f0
  go_wp2_with fail
  -- REST
  have hb := below1 W3 (.cells #[.bool s0, u a0, u b0, .pointer p0] 26)
  obtain ⟨W4, hW⟩ : ∃ W, W3.alloc (.cells #[.bool s0, u a0, u b0, .pointer p0] 26) = W := ⟨_, rfl⟩
  rw [hW] at hb ⊢
  clear hW l1
  have HX := Lib.hid (HX.out.below hb (Nat.le_refl _))
  (have hh := boxq (b := n1) hb f0 f1 f2 f3; clear f0 f1 f2 f3; obtain ⟨f0, f1, f2, f3⟩ := hh)
  have HA4 := Lib.hid (chain1 HA3.out hb)
  clear hb HA3
  have kz : Siz (qi 6 / qi (-4)) 2 := (siz_qi 6 (by decide) (by decide)).div (siz_qi (-4) (by decide) (by decide)) (by decide)
  have HTx := Lib.hid (fun v W (hv : IsQ W v (qi 6 / qi (-4))) => (kx ▸ text_q v _ 2 W hv kz (by decide) : Calls Tryz.prog 18 #[v] W (StrNew W [45, 51, 47, 50])))
  have HFl := Lib.hid (fun v W (hv : IsQ W v (qi 6 / qi (-4))) hG => floor_q v _ 2 W hv kz (by decide) (by decide) hG)
  have HCe := Lib.hid (fun v W (hv : IsQ W v (qi 6 / qi (-4))) hG => ceil_q v _ 2 W hv kz (by decide) (by decide) hG)
  have HTf := Lib.hid (fun v W (hv : IsQ W v (((qi 6 / qi (-4)).floor : Int) : Rat)) => (kxf ▸ text_q v _ 1 W hv (siz_int _ (by rw [show (qi 6 / qi (-4)).floor = -2 by kernel_rfl]; decide) (by rw [show (qi 6 / qi (-4)).floor = -2 by kernel_rfl]; decide)) (by decide) : Calls Tryz.prog 18 #[v] W (StrNew W [45, 50])))
  have HTc := Lib.hid (fun v W (hv : IsQ W v (((qi 6 / qi (-4)).ceil : Int) : Rat)) => (kxc ▸ text_q v _ 1 W hv (siz_int _ (by rw [show (qi 6 / qi (-4)).ceil = -1 by kernel_rfl]; decide) (by rw [show (qi 6 / qi (-4)).ceil = -1 by kernel_rfl]; decide)) (by decide) : Calls Tryz.prog 18 #[v] W (StrNew W [45, 49])))
  clear kz
  refine (HTx.out _ _ HX.out).mono ?_
  rintro e W5 ⟨rfl, hb⟩
  have HX := Lib.hid (HX.out.below hb (Nat.le_refl _))
  (have hh := boxq (b := n1) hb f0 f1 f2 f3; clear f0 f1 f2 f3; obtain ⟨f0, f1, f2, f3⟩ := hh)
  have HA5 := Lib.hid (chain1 HA4.out hb)
  clear hb HA4
  go_wp2_with fail
  refine (HFl.out _ _ HX.out (HG.out _ HA5.out)).mono ?_
  rintro e W6 ⟨vf, rfl, hvf, hb⟩
  have HX := Lib.hid (HX.out.below hb (Nat.le_refl _))
  (have hh := boxq (b := n1) hb f0 f1 f2 f3; clear f0 f1 f2 f3; obtain ⟨f0, f1, f2, f3⟩ := hh)
  have HA6 := Lib.hid (chain1 HA5.out hb)
  have HVF := Lib.hid hvf
  obtain ⟨_, _, _, _, rfl⟩ := hvf.form
  clear hvf
  clear hb HA5
  go_wp2_with fail
  refine (HTf.out _ _ HVF.out).mono ?_
  rintro e W7 ⟨rfl, hb⟩
  have HX := Lib.hid (HX.out.below hb (Nat.le_refl _))
  (have hh := boxq (b := n1) hb f0 f1 f2 f3; clear f0 f1 f2 f3; obtain ⟨f0, f1, f2, f3⟩ := hh)
  have HA7 := Lib.hid (chain1 HA6.out hb)
  clear hb HA6
  go_wp2_with fail
  refine (HCe.out _ _ HX.out (HG.out _ HA7.out)).mono ?_
  rintro e W8 ⟨vc, rfl, hvc, hb⟩
  have HX := Lib.hid (HX.out.below hb (Nat.le_refl _))
  (have hh := boxq (b := n1) hb f0 f1 f2 f3; clear f0 f1 f2 f3; obtain ⟨f0, f1, f2, f3⟩ := hh)
  have HA8 := Lib.hid (chain1 HA7.out hb)
  have HVC := Lib.hid hvc
  obtain ⟨_, _, _, _, rfl⟩ := hvc.form
  clear hvc
  clear hb HA7
  go_wp2_with fail
  refine (HTc.out _ _ HVC.out).mono ?_
  rintro e W9 ⟨rfl, hb⟩
  have HA9 := Lib.hid (chain1 HA8.out hb)
  clear hb HA8
  clear f0 f1 f2 f3 HX HVF HVC HTx HFl HCe HTf HTc
  go_wp2_with fail
  have HI := Lib.hid (fun W => int_q (2) (by decide) (by decide) W)
  refine (HI.out _).mono ?_
  rintro e W10 ⟨va, rfl, hva, hb⟩
  have HA10 := Lib.hid (chain1 HA9.out hb)
  have HVA := Lib.hid hva
  obtain ⟨_, _, _, _, rfl⟩ := hva.form
  clear hva
  clear hb HA9
  clear HI
  go_wp2_with fail
  have HI := Lib.hid (fun W => int_q (-1) (by decide) (by decide) W)
  refine (HI.out _).mono ?_
  rintro e W11 ⟨vb, rfl, hvb, hb⟩
  have HVA := Lib.hid (HVA.out.below hb (Nat.le_refl _))
  have HA11 := Lib.hid (chain1 HA10.out hb)
  have HVB := Lib.hid hvb
  obtain ⟨_, _, _, _, rfl⟩ := hvb.form
  clear hvb
  clear hb HA10
  clear HI
  go_wp2_with fail
  have HBt := Lib.hid (fun v1 v2 W h1 h2 => between_any v1 v2 (qi (2)) (qi (-1)) 1 W h1 h2 (siz_qi _ (by decide) (by decide)) (siz_qi _ (by decide) (by decide)) (by decide))
  rw [ks.1, ks.2] at HBt
  refine (HBt.out _ _ _ HVA.out HVB.out).mono ?_
  rintro e W12 ⟨vs, rfl, hvs, hb⟩
  have HA12 := Lib.hid (chain1 HA11.out hb)
  have HVS := Lib.hid hvs
  clear hb HA11
  clear HBt HVA HVB
  obtain ⟨s1, sa, sb, sp, s2, sc, sd, sq, rfl, hl, hh⟩ := hvs
  go_wp2_with fail
  obtain ⟨W13, hW, hb, hX⟩ := newbox8 W12 (.bool s1) (u sa) (u sb) (.pointer sp) (.bool s2) (u sc) (u sd) (.pointer sq)
  rw [hW]
  clear hW
  have HS8 := Lib.hid hX
  have HLs := Lib.hid (hl.below hb (Nat.le_refl _))
  have HHs := Lib.hid (hh.below hb (Nat.le_refl _))
  have HA13 := Lib.hid (chain1 HA12.out hb)
  clear hX hl hh HVS
  clear hb HA12
  generalize W12.heap.size = n5 at *
  have HI3 := Lib.hid (fun W => (int_q 3 (by decide) (by decide) W : Calls Tryz.prog 19 #[.int .i64 3] W (QNew W (qi 3))))
  have HI4 := Lib.hid (fun W => (int_q 4 (by decide) (by decide) W : Calls Tryz.prog 19 #[.int .i64 4] W (QNew W (qi 4))))
  have HBt := Lib.hid (fun v1 v2 W h1 h2 => between_any v1 v2 (qi 3) (qi 4) 1 W h1 h2 (siz_qi _ (by decide) (by decide)) (siz_qi _ (by decide) (by decide)) (by decide))
  rw [kr.1, kr.2] at HBt
  have HTm := Lib.hid (fun v1 v2 W h1 h2 hG => sptimes_any v1 v2 (qi (-1)) (qi 2) (qi 3) (qi 4) 1 W h1 h2 (siz_qi _ (by decide) (by decide)) (siz_qi _ (by decide) (by decide)) (siz_qi _ (by decide) (by decide)) (siz_qi _ (by decide) (by decide)) (by decide) hG)
  rw [kt.1, kt.2] at HTm
  have HsS := Lib.hid (show IsS W13 (.agg #[.bool s1, u sa, u sb, .pointer sp, .bool s2, u sc, u sd, .pointer sq]) (qi (-1)) (qi 2) from ⟨_, _, _, _, _, _, _, _, rfl, HLs.out, HHs.out⟩)
  go_upto_region 6 with fail
  go_cut [6] from 42 to 46 (fun s6 wx => KBox W13 (qi (-4)) (qi 8) s6 wx)
  case first =>
    have hb0 := Below.refl W13.heap.size W13
    obtain ⟨c0, c1, c2, c3, c4, c5, c6, c7⟩ := HS8.out.cells
    have lt13 : n5 < W13.heap.size := Box8.lt HS8.out
    have na13 := Nat.ne_of_lt lt13
    have nb13 := na13.symm
    go_region_held3 (fun w' => w'.cell? ⟨n5, 0, none⟩ = some (.bool s1) ∧ w'.cell? ⟨n5, 1, none⟩ = some (u sa) ∧ w'.cell? ⟨n5, 2, none⟩ = some (u sb) ∧ w'.cell? ⟨n5, 3, none⟩ = some (.pointer sp) ∧ w'.cell? ⟨n5, 4, none⟩ = some (.bool s2) ∧ w'.cell? ⟨n5, 5, none⟩ = some (u sc) ∧ w'.cell? ⟨n5, 6, none⟩ = some (u sd) ∧ w'.cell? ⟨n5, 7, none⟩ = some (.pointer sq)) (go_keep) (first | ((with_reducible refine (HI3.out _).mono ?_); rintro e W14 ⟨va, rfl, hva, hb⟩; obtain ⟨_, _, _, _, rfl⟩ := hva.form; ((first | have hz := ZAt.keep hz hb | have hz := ZAt.new hb0 hb | have hz := ZAt.drew hb0 hb | skip); have hb0 : Below W13.heap.size W13 W14 := (by first | exact chain1 hb0 hb | exact chain1 (chain1 hb0 (below1 _ _)) hb | exact chain hb0 hb | exact chain (chain1 hb0 (below1 _ _)) hb); clear c0 c1 c2 c3 c4 c5 c6 c7; have hX := Box8.below HS8.out hb0 (Nat.le_refl _); (obtain ⟨c0, c1, c2, c3, c4, c5, c6, c7⟩ := hX.cells); have lt14 : n5 < W14.heap.size := Box8.lt hX; have na14 := Nat.ne_of_lt lt14; have nb14 := na14.symm; clear hX); clear hb) | ((with_reducible refine (HI4.out _).mono ?_); rintro e W15 ⟨vb, rfl, hvb, hb⟩; obtain ⟨_, _, _, _, rfl⟩ := hvb.form; (first | replace hva := hva.below hb (Nat.le_refl _) | replace hva := (hva.below (below1 _ _) (Nat.le_refl _)).below hb (Nat.le_refl _)); ((first | have hz := ZAt.keep hz hb | have hz := ZAt.new hb0 hb | have hz := ZAt.drew hb0 hb | skip); have hb0 : Below W13.heap.size W13 W15 := (by first | exact chain1 hb0 hb | exact chain1 (chain1 hb0 (below1 _ _)) hb | exact chain hb0 hb | exact chain (chain1 hb0 (below1 _ _)) hb); clear c0 c1 c2 c3 c4 c5 c6 c7; have hX := Box8.below HS8.out hb0 (Nat.le_refl _); (obtain ⟨c0, c1, c2, c3, c4, c5, c6, c7⟩ := hX.cells); have lt15 : n5 < W15.heap.size := Box8.lt hX; have na15 := Nat.ne_of_lt lt15; have nb15 := na15.symm; clear hX); clear hb) | ((with_reducible refine (HBt.out _ _ _ ?_ ?_).mono ?_); (first | exact hva | exact hva.below (below1 _ _) (Nat.le_refl _)); (first | exact hvb | exact hvb.below (below1 _ _) (Nat.le_refl _)); rintro e W16 ⟨vt, rfl, hvt, hb⟩; have hvt' := hvt; obtain ⟨_, _, _, _, _, _, _, _, rfl, -, -⟩ := hvt'; ((first | have hz := ZAt.keep hz hb | have hz := ZAt.new hb0 hb | have hz := ZAt.drew hb0 hb | skip); have hb0 : Below W13.heap.size W13 W16 := (by first | exact chain1 hb0 hb | exact chain1 (chain1 hb0 (below1 _ _)) hb | exact chain hb0 hb | exact chain (chain1 hb0 (below1 _ _)) hb); clear c0 c1 c2 c3 c4 c5 c6 c7; have hX := Box8.below HS8.out hb0 (Nat.le_refl _); (obtain ⟨c0, c1, c2, c3, c4, c5, c6, c7⟩ := hX.cells); have lt16 : n5 < W16.heap.size := Box8.lt hX; have na16 := Nat.ne_of_lt lt16; have nb16 := na16.symm; clear hX); clear hb) | ((with_reducible refine (HTm.out _ _ _ ?_ ?_ ?_).mono ?_); (first | exact HsS.out.below hb0 (Nat.le_refl _) | exact HsS.out.below (chain1 hb0 (below1 _ _)) (Nat.le_refl _)); (first | exact hvt | exact hvt.below (below1 _ _) (Nat.le_refl _)); (first | exact HG.out _ (chain1 HA13.out hb0) | exact HG.out _ (chain1 HA13.out (chain1 hb0 (below1 _ _)))); rintro e W17 ⟨v, rfl, hv, hb⟩; have hv' := hv; obtain ⟨t1, ta, tb, tp, t2, tc, td, tq, rfl, -, -⟩ := hv'; ((first | have hz := ZAt.keep hz hb | have hz := ZAt.new hb0 hb | have hz := ZAt.drew hb0 hb | skip); have hb0 : Below W13.heap.size W13 W17 := (by first | exact chain1 hb0 hb | exact chain1 (chain1 hb0 (below1 _ _)) hb | exact chain hb0 hb | exact chain (chain1 hb0 (below1 _ _)) hb); clear c0 c1 c2 c3 c4 c5 c6 c7; have hX := Box8.below HS8.out hb0 (Nat.le_refl _); (obtain ⟨c0, c1, c2, c3, c4, c5, c6, c7⟩ := hX.cells); have lt17 : n5 < W17.heap.size := Box8.lt hX; have na17 := Nat.ne_of_lt lt17; have nb17 := na17.symm; clear hX); clear hb; (first | (have hz9 := hz.2; (obtain ⟨z0, z1, z2, z3, z4, z5, z6, z7⟩ := Box8.cells hz9; have zf0 := Box8.frozen hz9 0; have zf1 := Box8.frozen hz9 1; have zf2 := Box8.frozen hz9 2; have zf3 := Box8.frozen hz9 3; have zf4 := Box8.frozen hz9 4; have zf5 := Box8.frozen hz9 5; have zf6 := Box8.frozen hz9 6; have zf7 := Box8.frozen hz9 7); have HZz := Lib.hid hz; clear hz hz9) | skip); have HVv := Lib.hid hv; have HBb := Lib.hid hb0; clear hv hb0 hva hvb hvt))
    all_goals (clear c0 c1 c2 c3 c4 c5 c6 c7; rename_i hS; clear hS; go_wp2_with fail; go_meet; first | (have hz := HZz.out; exact KBox.stored hz HVv.out HBb.out) | exact KBox.fresh HVv.out HBb.out)
  case rest =>
    obtain ⟨n6, t1, ta, tb, tp, t2, tc, td, tq, rfl, hX, hl, hh, hb⟩ := hcut
    obtain ⟨W17, hW17⟩ : ∃ W, W = wc := ⟨_, rfl⟩
    subst hW17
    have HT8 := Lib.hid hX
    have HLt := Lib.hid hl
    have HHt := Lib.hid hh
    have HS8 := Lib.hid (Box8.below HS8.out hb (Nat.le_refl _))
    have HLs := Lib.hid (HLs.out.below hb (Nat.le_refl _))
    have HHs := Lib.hid (HHs.out.below hb (Nat.le_refl _))
    have HA17 := Lib.hid (chain1 HA13.out hb)
    clear hX hl hh HI3 HI4 HBt HTm HsS
    clear hb HA13
    go_wp2_with fail
    have HI := Lib.hid (fun W => int_q (1) (by decide) (by decide) W)
    refine (HI.out _).mono ?_
    rintro e W18 ⟨va, rfl, hva, hb⟩
    have HLs := Lib.hid (HLs.out.below hb (Nat.le_refl _))
    have HHs := Lib.hid (HHs.out.below hb (Nat.le_refl _))
    have HLt := Lib.hid (HLt.out.below hb (Nat.le_refl _))
    have HHt := Lib.hid (HHt.out.below hb (Nat.le_refl _))
    have HS8 := Lib.hid (Box8.below HS8.out hb (Nat.le_refl _))
    have HT8 := Lib.hid (Box8.below HT8.out hb (Nat.le_refl _))
    have HA18 := Lib.hid (chain1 HA17.out hb)
    have HVA := Lib.hid hva
    obtain ⟨_, _, _, _, rfl⟩ := hva.form
    clear hva
    clear hb HA17
    clear HI
    go_wp2_with fail
    have HI := Lib.hid (fun W => int_q (-2) (by decide) (by decide) W)
    refine (HI.out _).mono ?_
    rintro e W19 ⟨vb, rfl, hvb, hb⟩
    have HLs := Lib.hid (HLs.out.below hb (Nat.le_refl _))
    have HHs := Lib.hid (HHs.out.below hb (Nat.le_refl _))
    have HLt := Lib.hid (HLt.out.below hb (Nat.le_refl _))
    have HHt := Lib.hid (HHt.out.below hb (Nat.le_refl _))
    have HVA := Lib.hid (HVA.out.below hb (Nat.le_refl _))
    have HS8 := Lib.hid (Box8.below HS8.out hb (Nat.le_refl _))
    have HT8 := Lib.hid (Box8.below HT8.out hb (Nat.le_refl _))
    have HA19 := Lib.hid (chain1 HA18.out hb)
    have HVB := Lib.hid hvb
    obtain ⟨_, _, _, _, rfl⟩ := hvb.form
    clear hvb
    clear hb HA18
    clear HI
    go_wp2_with fail
    have HI := Lib.hid (fun W => int_q (0) (by decide) (by decide) W)
    refine (HI.out _).mono ?_
    rintro e W20 ⟨vc, rfl, hvc, hb⟩
    have HLs := Lib.hid (HLs.out.below hb (Nat.le_refl _))
    have HHs := Lib.hid (HHs.out.below hb (Nat.le_refl _))
    have HLt := Lib.hid (HLt.out.below hb (Nat.le_refl _))
    have HHt := Lib.hid (HHt.out.below hb (Nat.le_refl _))
    have HVA := Lib.hid (HVA.out.below hb (Nat.le_refl _))
    have HVB := Lib.hid (HVB.out.below hb (Nat.le_refl _))
    have HS8 := Lib.hid (Box8.below HS8.out hb (Nat.le_refl _))
    have HT8 := Lib.hid (Box8.below HT8.out hb (Nat.le_refl _))
    have HA20 := Lib.hid (chain1 HA19.out hb)
    have HVC := Lib.hid hvc
    obtain ⟨_, _, _, _, rfl⟩ := hvc.form
    clear hvc
    clear hb HA19
    clear HI
    go_wp2_with fail
    have HI := Lib.hid (fun W => int_q (0) (by decide) (by decide) W)
    refine (HI.out _).mono ?_
    rintro e W21 ⟨vd, rfl, hvd, hb⟩
    have HLs := Lib.hid (HLs.out.below hb (Nat.le_refl _))
    have HHs := Lib.hid (HHs.out.below hb (Nat.le_refl _))
    have HLt := Lib.hid (HLt.out.below hb (Nat.le_refl _))
    have HHt := Lib.hid (HHt.out.below hb (Nat.le_refl _))
    have HVA := Lib.hid (HVA.out.below hb (Nat.le_refl _))
    have HVB := Lib.hid (HVB.out.below hb (Nat.le_refl _))
    have HVC := Lib.hid (HVC.out.below hb (Nat.le_refl _))
    have HS8 := Lib.hid (Box8.below HS8.out hb (Nat.le_refl _))
    have HT8 := Lib.hid (Box8.below HT8.out hb (Nat.le_refl _))
    have HA21 := Lib.hid (chain1 HA20.out hb)
    have HVD := Lib.hid hvd
    obtain ⟨_, _, _, _, rfl⟩ := hvd.form
    clear hvd
    clear hb HA20
    clear HI
    go_wp2_with fail
    have HI := Lib.hid (fun W => int_q (3) (by decide) (by decide) W)
    refine (HI.out _).mono ?_
    rintro e W22 ⟨ve, rfl, hve, hb⟩
    have HLs := Lib.hid (HLs.out.below hb (Nat.le_refl _))
    have HHs := Lib.hid (HHs.out.below hb (Nat.le_refl _))
    have HLt := Lib.hid (HLt.out.below hb (Nat.le_refl _))
    have HHt := Lib.hid (HHt.out.below hb (Nat.le_refl _))
    have HVA := Lib.hid (HVA.out.below hb (Nat.le_refl _))
    have HVB := Lib.hid (HVB.out.below hb (Nat.le_refl _))
    have HVC := Lib.hid (HVC.out.below hb (Nat.le_refl _))
    have HVD := Lib.hid (HVD.out.below hb (Nat.le_refl _))
    have HS8 := Lib.hid (Box8.below HS8.out hb (Nat.le_refl _))
    have HT8 := Lib.hid (Box8.below HT8.out hb (Nat.le_refl _))
    have HA22 := Lib.hid (chain1 HA21.out hb)
    have HVE := Lib.hid hve
    obtain ⟨_, _, _, _, rfl⟩ := hve.form
    clear hve
    clear hb HA21
    clear HI
    go_wp2_with fail
    have HBt := Lib.hid (fun v1 v2 W h1 h2 => between_any v1 v2 (qi (0)) (qi (3)) 1 W h1 h2 (siz_qi _ (by decide) (by decide)) (siz_qi _ (by decide) (by decide)) (by decide))
    rw [kv.1, kv.2] at HBt
    refine (HBt.out _ _ _ HVD.out HVE.out).mono ?_
    rintro e W23 ⟨vr, rfl, hvr, hb⟩
    have HLs := Lib.hid (HLs.out.below hb (Nat.le_refl _))
    have HHs := Lib.hid (HHs.out.below hb (Nat.le_refl _))
    have HLt := Lib.hid (HLt.out.below hb (Nat.le_refl _))
    have HHt := Lib.hid (HHt.out.below hb (Nat.le_refl _))
    have HVA := Lib.hid (HVA.out.below hb (Nat.le_refl _))
    have HVB := Lib.hid (HVB.out.below hb (Nat.le_refl _))
    have HVC := Lib.hid (HVC.out.below hb (Nat.le_refl _))
    have HS8 := Lib.hid (Box8.below HS8.out hb (Nat.le_refl _))
    have HT8 := Lib.hid (Box8.below HT8.out hb (Nat.le_refl _))
    have HA23 := Lib.hid (chain1 HA22.out hb)
    have HVR := Lib.hid hvr
    clear hb HA22
    clear HBt HVD HVE
    have HQu := Lib.hid (fun v1 v2 v3 v4 W h1 h2 h3 h4 hG => quadratic_any v1 v2 v3 v4 (qi 1) (qi (-2)) (qi 0) (qi 0) (qi 3) 1 W h1 h2 h3 h4 (siz_qi _ (by decide) (by decide)) (siz_qi _ (by decide) (by decide)) (siz_qi _ (by decide) (by decide)) (siz_qi _ (by decide) (by decide)) (siz_qi _ (by decide) (by decide)) (by decide) hG)
    rw [ku.1, ku.2] at HQu
    obtain ⟨r1, ra, rb, rp, r2, rc, rd, rq, rfl, hl, hh⟩ := hvr
    have hvr := HVR.out
    go_wp2_with fail
    refine (HQu.out _ _ _ _ _ HVA.out HVB.out HVC.out HVR.out (HG.out _ HA23.out)).mono ?_
    rintro e W24 ⟨vq, rfl, hvq, hb⟩
    have HLs := Lib.hid (HLs.out.below hb (Nat.le_refl _))
    have HHs := Lib.hid (HHs.out.below hb (Nat.le_refl _))
    have HLt := Lib.hid (HLt.out.below hb (Nat.le_refl _))
    have HHt := Lib.hid (HHt.out.below hb (Nat.le_refl _))
    have HS8 := Lib.hid (Box8.below HS8.out hb (Nat.le_refl _))
    have HT8 := Lib.hid (Box8.below HT8.out hb (Nat.le_refl _))
    have HA24 := Lib.hid (chain1 HA23.out hb)
    have HVQ := Lib.hid hvq
    clear hb HA23
    clear HQu HVA HVB HVC HVR hl hh hvr
    obtain ⟨q1, qa, qb, qp, q2, qc, qd, qq, rfl, hl, hh⟩ := hvq
    have ltHS8 := Box8.lt HS8.out
    have ltHT8 := Box8.lt HT8.out
    go_upto_region 8 with fail
    obtain ⟨W25, hW, hb, hX⟩ := newbox8 W24 (.bool q1) (u qa) (u qb) (.pointer qp) (.bool q2) (u qc) (u qd) (.pointer qq)
    rw [hW]
    clear hW
    clear ltHS8
    clear ltHT8
    have HQ8 := Lib.hid hX
    have HLq := Lib.hid (hl.below hb (Nat.le_refl _))
    have HHq := Lib.hid (hh.below hb (Nat.le_refl _))
    have HLs := Lib.hid (HLs.out.below hb (Nat.le_refl _))
    have HHs := Lib.hid (HHs.out.below hb (Nat.le_refl _))
    have HLt := Lib.hid (HLt.out.below hb (Nat.le_refl _))
    have HHt := Lib.hid (HHt.out.below hb (Nat.le_refl _))
    have HS8 := Lib.hid (Box8.below HS8.out hb (Nat.le_refl _))
    have HT8 := Lib.hid (Box8.below HT8.out hb (Nat.le_refl _))
    have HA25 := Lib.hid (chain1 HA24.out hb)
    clear hX hl hh HVQ
    clear hb HA24
    generalize W24.heap.size = n7 at *
    (obtain ⟨c0, c1, c2, c3, c4, c5, c6, c7⟩ := HT8.out.cells)
    go_wp2_with fail
    clear c0 c1 c2 c3 c4 c5 c6 c7
    have HTx := Lib.hid (fun v W (hv : IsQ W v (qi (-4))) => (kt4 ▸ text_q v _ 1 W hv (siz_qi _ (by decide) (by decide)) (by decide) : Calls Tryz.prog 18 #[v] W (StrNew W _)))
    refine (HTx.out _ _ HLt.out).mono ?_
    rintro e W26 ⟨rfl, hb⟩
    have HLs := Lib.hid (HLs.out.below hb (Nat.le_refl _))
    have HHs := Lib.hid (HHs.out.below hb (Nat.le_refl _))
    have HLt := Lib.hid (HLt.out.below hb (Nat.le_refl _))
    have HHt := Lib.hid (HHt.out.below hb (Nat.le_refl _))
    have HLq := Lib.hid (HLq.out.below hb (Nat.le_refl _))
    have HHq := Lib.hid (HHq.out.below hb (Nat.le_refl _))
    have HS8 := Lib.hid (Box8.below HS8.out hb (Nat.le_refl _))
    have HT8 := Lib.hid (Box8.below HT8.out hb (Nat.le_refl _))
    have HQ8 := Lib.hid (Box8.below HQ8.out hb (Nat.le_refl _))
    have HA26 := Lib.hid (chain1 HA25.out hb)
    clear hb HA25
    clear HTx
    (obtain ⟨c0, c1, c2, c3, c4, c5, c6, c7⟩ := HT8.out.cells)
    go_wp2_with fail
    clear c0 c1 c2 c3 c4 c5 c6 c7
    have HTx := Lib.hid (fun v W (hv : IsQ W v (qi (8))) => (kt8 ▸ text_q v _ 1 W hv (siz_qi _ (by decide) (by decide)) (by decide) : Calls Tryz.prog 18 #[v] W (StrNew W _)))
    refine (HTx.out _ _ HHt.out).mono ?_
    rintro e W27 ⟨rfl, hb⟩
    have HLs := Lib.hid (HLs.out.below hb (Nat.le_refl _))
    have HHs := Lib.hid (HHs.out.below hb (Nat.le_refl _))
    have HLt := Lib.hid (HLt.out.below hb (Nat.le_refl _))
    have HHt := Lib.hid (HHt.out.below hb (Nat.le_refl _))
    have HLq := Lib.hid (HLq.out.below hb (Nat.le_refl _))
    have HHq := Lib.hid (HHq.out.below hb (Nat.le_refl _))
    have HS8 := Lib.hid (Box8.below HS8.out hb (Nat.le_refl _))
    have HT8 := Lib.hid (Box8.below HT8.out hb (Nat.le_refl _))
    have HQ8 := Lib.hid (Box8.below HQ8.out hb (Nat.le_refl _))
    have HA27 := Lib.hid (chain1 HA26.out hb)
    clear hb HA26
    clear HTx
    (obtain ⟨c0, c1, c2, c3, c4, c5, c6, c7⟩ := HS8.out.cells)
    go_wp2_with fail
    clear c0 c1 c2 c3 c4 c5 c6 c7
    have HSq := Lib.hid (fun v W h hG => square_any v (qi (-1)) (qi 2) 1 W h (siz_qi _ (by decide) (by decide)) (siz_qi _ (by decide) (by decide)) (by decide) hG)
    rw [kq] at HSq
    have HsS := Lib.hid (show IsS W27 (.agg #[.bool s1, u sa, u sb, .pointer sp, .bool s2, u sc, u sd, .pointer sq]) (qi (-1)) (qi 2) from ⟨_, _, _, _, _, _, _, _, rfl, HLs.out, HHs.out⟩)
    refine (HSq.out _ _ HsS.out (HG.out _ HA27.out)).mono ?_
    rintro e W28 ⟨vy, rfl, hvy, hb⟩
    have HLq := Lib.hid (HLq.out.below hb (Nat.le_refl _))
    have HHq := Lib.hid (HHq.out.below hb (Nat.le_refl _))
    have HQ8 := Lib.hid (Box8.below HQ8.out hb (Nat.le_refl _))
    have HA28 := Lib.hid (chain1 HA27.out hb)
    have HVY := Lib.hid hvy
    clear hb HA27
    obtain ⟨y1, ya, yb, yp, y2, yc, yd, yq, rfl, hl, hh⟩ := hvy
    have HLy := Lib.hid hl
    clear hl hh HVY HSq HsS
    have hfd := field_low y1 y2 ya yb yc yd yp yq W28
    go_wp2_with fail
    clear hfd
    have HTx := Lib.hid (fun v W (hv : IsQ W v (qi (0))) => (kt0 ▸ text_q v _ 1 W hv (siz_qi _ (by decide) (by decide)) (by decide) : Calls Tryz.prog 18 #[v] W (StrNew W _)))
    refine (HTx.out _ _ HLy.out).mono ?_
    rintro e W29 ⟨rfl, hb⟩
    have HLq := Lib.hid (HLq.out.below hb (Nat.le_refl _))
    have HHq := Lib.hid (HHq.out.below hb (Nat.le_refl _))
    have HQ8 := Lib.hid (Box8.below HQ8.out hb (Nat.le_refl _))
    have HA29 := Lib.hid (chain1 HA28.out hb)
    clear hb HA28
    clear HTx
    (obtain ⟨c0, c1, c2, c3, c4, c5, c6, c7⟩ := HQ8.out.cells)
    go_wp2_with fail
    clear c0 c1 c2 c3 c4 c5 c6 c7
    have HTx := Lib.hid (fun v W (hv : IsQ W v (qi (-1))) => (kt1 ▸ text_q v _ 1 W hv (siz_qi _ (by decide) (by decide)) (by decide) : Calls Tryz.prog 18 #[v] W (StrNew W _)))
    refine (HTx.out _ _ HLq.out).mono ?_
    rintro e W30 ⟨rfl, hb⟩
    have HLq := Lib.hid (HLq.out.below hb (Nat.le_refl _))
    have HHq := Lib.hid (HHq.out.below hb (Nat.le_refl _))
    have HQ8 := Lib.hid (Box8.below HQ8.out hb (Nat.le_refl _))
    have HA30 := Lib.hid (chain1 HA29.out hb)
    clear hb HA29
    clear HTx
    (obtain ⟨c0, c1, c2, c3, c4, c5, c6, c7⟩ := HQ8.out.cells)
    go_wp2_with fail
    clear c0 c1 c2 c3 c4 c5 c6 c7
    have HTx := Lib.hid (fun v W (hv : IsQ W v (qi (3))) => (kt3 ▸ text_q v _ 1 W hv (siz_qi _ (by decide) (by decide)) (by decide) : Calls Tryz.prog 18 #[v] W (StrNew W _)))
    refine (HTx.out _ _ HHq.out).mono ?_
    rintro e W31 ⟨rfl, hb⟩
    have HLq := Lib.hid (HLq.out.below hb (Nat.le_refl _))
    have HHq := Lib.hid (HHq.out.below hb (Nat.le_refl _))
    have HQ8 := Lib.hid (Box8.below HQ8.out hb (Nat.le_refl _))
    have HA31 := Lib.hid (chain1 HA30.out hb)
    clear hb HA30
    clear HTx
    go_wp2_with fail
    exact bodyPost_ret (v := .bool true) (by simp [results, Tryz.results14, go_sem]) rfl ⟨rfl, HA31.out⟩

end Go.Proofs.YtojploidgagmgaaGreatDoor

/- number: the number of a text. -/
namespace Go.Proofs.YtojploidgagmgaaGreatDoor
open Go Go.RowKit Go.Proofs Lim

theorem number_any (l : List UInt8) (w : World) (hl : l.length ≤ 100000) (hG : Gr w) : Calls Tryz.prog 76 #[str l] w (QNew w (readQ l).1) := by
  have HR := Lib.hid (fun W (hW : Below w.heap.size w W) => read_any l W hl (hG.below hW hG.size))
  clear hG hl
  go_enter Tryz.func76, Tryz.ntmps76
  go_wp2_with fail
  obtain ⟨W0, hW0, hb0, hz, hs⟩ := boxz w; rw [← hW0]; clear hW0; have HZ := Lib.hid hz; have HW0 := Lib.hid hb0; have hb0 := Below.refl W0.heap.size W0; clear hz
  refine (HR.out _ HW0.out).mono ?_
  rintro e W1 ⟨v, rfl, hv, hbb⟩
  generalize (readQ l).1 = r at *
  generalize (readQ l).2 = ec at *
  obtain ⟨s1, a1, b1, p1, rfl⟩ := hv.form
  have HV := Lib.hid hv
  have HB := Lib.hid hbb
  clear hv hbb hb0
  go_upto_region 2 with fail
  obtain ⟨W2, hW, hb, ⟨f0, f1, f2, f3⟩⟩ := box1 W1 (.bool s1) (u a1) (u b1) (.pointer p1); rw [← hW]; clear hW
  have HB2 := Lib.hid (chain1 HB.out hb)
  have hn : ¬ W1.heap.size = w.heap.size := by
    have h1 := (Array.getElem?_eq_some_iff.1 HZ.out).1
    have h2 := HB.out.size
    omega
  have hn' : ¬ w.heap.size = W1.heap.size := fun h => hn h.symm
  have HFin := Lib.hid (QNew.stored (a0 := .bool s1) (a1 := u a1) (a2 := u b1) (a3 := .pointer p1) (HZ.out.below HB2.out (Nat.le_refl _)) (HV.out.below hb (Nat.le_refl _)) (chain1 HW0.out HB2.out) (Nat.le_refl _))
  (have hz := HZ.out.below HB2.out (Nat.le_refl _); have zf := hz.frozen; obtain ⟨z0, z1, z2, z3⟩ := hz.cells; have zf0 := zf 0; have zf1 := zf 1; have zf2 := zf 2; have zf3 := zf 3; clear zf hz)
  clear hb
  go_wp2_with fail
  refine bodyPost_ret (v := .agg #[.bool s1, u a1, u b1, .pointer p1]) (by simp [results, Tryz.results76, go_sem, z0, z1, z2, z3]) rfl ?_
  exact HFin.out

end Go.Proofs.YtojploidgagmgaaGreatDoor
