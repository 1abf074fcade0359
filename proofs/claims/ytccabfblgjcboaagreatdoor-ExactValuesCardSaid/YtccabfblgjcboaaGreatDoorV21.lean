/- Package exact: QParts SpBase SpAround SpSort SpHas SpWith SpUnder SpUnder1. -/
import Derived.Test.YtccabfblgjcboaaGreatDoorV19
import Derived.Test.YtccabfblgjcboaaGreatDoorV20
set_option linter.all false

namespace Go.Proofs.YtccabfblgjcboaaGreatDoor
open Go Go.RowKit Go.Proofs Lim
open Go Go.RowKit Go.Proofs Lim
def IsS (w : World) (v : Value) (lo hi : Rat) : Prop := ∃ s1 a1 b1 p1 s2 a2 b2 p2, v = .agg #[.bool s1, u a1, u b1, .pointer p1, .bool s2, u a2, u b2, .pointer p2] ∧
 cR w (.agg #[.bool s1, u a1, u b1, .pointer p1]) lo ∧ cR w (.agg #[.bool s2, u a2, u b2, .pointer p2]) hi
theorem IsS.below {w w' : World} {v : Value} {lo hi : Rat} {k : Nat} (h : IsS w v lo hi) (hb : Below k w w') (hk : w.heap.size ≤ k) : IsS w' v lo hi := by
 obtain ⟨s1, a1, b1, p1, s2, a2, b2, p2, hv, h1, h2⟩ := h
 exact ⟨s1, a1, b1, p1, s2, a2, b2, p2, hv, h1.below hb hk, h2.below hb hk⟩
def SpNew (w : World) (lo hi : Rat) (e : Ending) (w' : World) : Prop := ∃ v, e = .returned v ∧ IsS w' v lo hi ∧ Below w.heap.size w w'
def NBox (W : World) (R : Nat) : Prop := ∃ (cs : Array Value) (t : TypeId) (fr : Nat × Nat), W.heap[R]? = some (.cells cs t fr) ∧ t ≠ 23 ∧ ∀ x, cs[0]? = some x → ∃ s, x = .bool s
theorem co.other {W W' : World} {R : Nat} {v : Value} {n : Nat} (hR : NBox W R) (h : co W v n) (ho : cN R W W') : co W' v n := by
 obtain ⟨cs, t, fr, hb, ht, _⟩ := hR
 obtain ⟨xs, ⟨⟨ao, c, rfl, h1, h2, hr⟩, ok, typ⟩, htr, hv⟩ := h
 refine ⟨xs, ⟨⟨ao, c, rfl, h1, h2, fun hn => ?_⟩, ok, typ.other hb ht ho⟩, htr, hv⟩
 obtain ⟨b, off, rfl, row⟩ := hr hn
 refine ⟨b, off, rfl, ho.row ?_ row⟩
 intro e
 obtain ⟨cs', fr', hc⟩ := typ ⟨b, off, none⟩ _ _ rfl hn
 rw [show (⟨b, off, none⟩ : Addr).block = R from e, hb] at hc
 injection hc with hc
 injection hc with _ hc
 exact ht hc
theorem Num.other {W W' : World} {R : Nat} {v : Value} {neg : Bool} {n d : Nat} (hR : NBox W R) (h : Num W v neg n d) (ho : cN R W W') : Num W' v neg n d := by
 cases h with
 | low l hv hd hn hdB => exact .low l hv hd hn hdB
 | wide b x y hv hx hy h1 h2 hB h0 hd =>
  have hb : b ≠ R := by
   intro e
   subst e
   obtain ⟨_, _, _, rfl, _⟩ := h1.form
   obtain ⟨cs, t, fr, hb, _, hz⟩ := hR
   rw [World.cell?, hb] at hx
   obtain ⟨s, e⟩ := hz _ hx
   cases e
  exact .wide b x y hv ((ho.cell (p := ⟨b, 0, none⟩) hb).trans hx) ((ho.cell (p := ⟨b, 1, none⟩) hb).trans hy) (h1.other hR ho) (h2.other hR ho) hB h0 hd
theorem cR.other {W W' : World} {R : Nat} {v : Value} {r : Rat} (hR : NBox W R) (h : cR W v r) (ho : cN R W W') : cR W' v r := Num.other hR h ho
theorem IsS.other {W W' : World} {R : Nat} {v : Value} {lo hi : Rat} (hR : NBox W R) (h : IsS W v lo hi) (ho : cN R W W') : IsS W' v lo hi := by
 obtain ⟨s1, a1, b1, p1, s2, a2, b2, p2, hv, h1, h2⟩ := h
 exact ⟨s1, a1, b1, p1, s2, a2, b2, p2, hv, Num.other hR h1 ho, Num.other hR h2 ho⟩
def cj (W : World) (b : Nat) (c0 c1 c2 c3 c4 c5 c6 c7 : Value) : Prop := W.heap[b]? = some (.cells #[c0, c1, c2, c3, c4, c5, c6, c7] 66 (0, 0))
def ZBox8 (W : World) (b : Nat) : Prop := cj W b (.bool false) (.int .u64 0) (.int .u64 0) (.pointer none) (.bool false) (.int .u64 0) (.int .u64 0) (.pointer none)
theorem cj.of_block {W W' : World} {b : Nat} {c0 c1 c2 c3 c4 c5 c6 c7 : Value} (h : cj W b c0 c1 c2 c3 c4 c5 c6 c7) (hb : W'.heap[b]? = W.heap[b]?) : cj W' b c0 c1 c2 c3 c4 c5 c6 c7 := hb.trans h
theorem cj.lt {W : World} {b : Nat} {c0 c1 c2 c3 c4 c5 c6 c7 : Value} (h : cj W b c0 c1 c2 c3 c4 c5 c6 c7) : b < W.heap.size := (Array.getElem?_eq_some_iff.1 h).1
theorem cj.below {W W' : World} {b k : Nat} {c0 c1 c2 c3 c4 c5 c6 c7 : Value} (h : cj W b c0 c1 c2 c3 c4 c5 c6 c7) (hb : Below k W W') (hk : W.heap.size ≤ k) : cj W' b c0 c1 c2 c3 c4 c5 c6 c7 :=
 h.of_block (hb.block b (Nat.lt_of_lt_of_le h.lt hk))
theorem cj.cells {W : World} {b : Nat} {c0 c1 c2 c3 c4 c5 c6 c7 : Value} (h : cj W b c0 c1 c2 c3 c4 c5 c6 c7) :
 W.cell? ⟨b, 0, none⟩ = some c0 ∧ W.cell? ⟨b, 1, none⟩ = some c1 ∧ W.cell? ⟨b, 2, none⟩ = some c2 ∧ W.cell? ⟨b, 3, none⟩ = some c3 ∧
 W.cell? ⟨b, 4, none⟩ = some c4 ∧ W.cell? ⟨b, 5, none⟩ = some c5 ∧ W.cell? ⟨b, 6, none⟩ = some c6 ∧ W.cell? ⟨b, 7, none⟩ = some c7 := by
 unfold cj at h
 simp [World.cell?, h]
theorem cj.frozen {W : World} {b : Nat} {c0 c1 c2 c3 c4 c5 c6 c7 : Value} (h : cj W b c0 c1 c2 c3 c4 c5 c6 c7) (i : Nat) : W.frozen? ⟨b, i, none⟩ = false := by
 unfold cj at h
 simp [World.frozen?, h]
theorem cj.nbox {W : World} {b : Nat} {s : Bool} {c1 c2 c3 c4 c5 c6 c7 : Value} (h : cj W b (.bool s) c1 c2 c3 c4 c5 c6 c7) : NBox W b :=
 ⟨_, _, _, h, by decide, fun x hx => ⟨s, by simpa using hx.symm⟩⟩
theorem Box.nbox {W : World} {b : Nat} {s : Bool} {c1 c2 c3 : Value} (h : Box W b (.bool s) c1 c2 c3) : NBox W b :=
 ⟨_, _, _, h, by decide, fun x hx => ⟨s, by simpa using hx.symm⟩⟩
theorem cj.new (w : World) (c0 c1 c2 c3 c4 c5 c6 c7 : Value) : cj (w.alloc (.cells #[c0, c1, c2, c3, c4, c5, c6, c7] 66)) w.heap.size c0 c1 c2 c3 c4 c5 c6 c7 := heap_alloc_new w _
theorem jo {W : World} {b o : Nat} {v : Value} {cs : Array Value} {t : TypeId} (h : W.heap[b]? = some (.cells cs t (0, 0))) : (W.setCell ⟨b, o, none⟩ v).heap[b]? = some (.cells (cs.setIfInBounds o v) t (0, 0)) := by
 simp only [World.setCell, Array.getElem?_modify, if_pos, h]
 rfl
theorem cj.setLow {W : World} {b : Nat} {c0 c1 c2 c3 c4 c5 c6 c7 : Value} (h : cj W b c0 c1 c2 c3 c4 c5 c6 c7) (d0 d1 d2 d3 : Value) :
 cj ((((W.setCell ⟨b, 0, none⟩ d0).setCell ⟨b, 1, none⟩ d1).setCell ⟨b, 2, none⟩ d2).setCell ⟨b, 3, none⟩ d3) b d0 d1 d2 d3 c4 c5 c6 c7 := by
 have := jo (o := 3) (v := d3) (jo (o := 2) (v := d2) (jo (o := 1) (v := d1) (jo (o := 0) (v := d0) h)))
 exact this
theorem cj.setHigh {W : World} {b : Nat} {c0 c1 c2 c3 c4 c5 c6 c7 : Value} (h : cj W b c0 c1 c2 c3 c4 c5 c6 c7) (d4 d5 d6 d7 : Value) :
 cj ((((W.setCell ⟨b, 4, none⟩ d4).setCell ⟨b, 5, none⟩ d5).setCell ⟨b, 6, none⟩ d6).setCell ⟨b, 7, none⟩ d7) b c0 c1 c2 c3 d4 d5 d6 d7 := by
 have := jo (o := 7) (v := d7) (jo (o := 6) (v := d6) (jo (o := 5) (v := d5) (jo (o := 4) (v := d4) h)))
 exact this
theorem only4 (W : World) (b i : Nat) (d0 d1 d2 d3 : Value) : cN b W ((((W.setCell ⟨b, i, none⟩ d0).setCell ⟨b, i + 1, none⟩ d1).setCell ⟨b, i + 2, none⟩ d2).setCell ⟨b, i + 3, none⟩ d3) :=
 ((((cN.refl b W).set i d0).set (i + 1) d1).set (i + 2) d2).set (i + 3) d3
theorem only8 (W : World) (b : Nat) (d0 d1 d2 d3 d4 d5 d6 d7 : Value) : cN b W ((((((((W.setCell ⟨b, 0, none⟩ d0).setCell ⟨b, 1, none⟩ d1).setCell ⟨b, 2, none⟩ d2).setCell ⟨b, 3, none⟩ d3).setCell ⟨b, 4, none⟩ d4).setCell ⟨b, 5, none⟩ d5).setCell ⟨b, 6, none⟩ d6).setCell ⟨b, 7, none⟩ d7) :=
 ((((((((cN.refl b W).set 0 d0).set 1 d1).set 2 d2).set 3 d3).set 4 d4).set 5 d5).set 6 d6).set 7 d7
theorem SpNew.stored {w W : World} {R : Nat} {v : Value} {lo hi : Rat} (hR : NBox W R) (h : IsS W v lo hi) (hb : Below w.heap.size w W) (hw : w.heap.size ≤ R) (d0 d1 d2 d3 d4 d5 d6 d7 : Value) :
 SpNew w lo hi (.returned v) ((((((((W.setCell ⟨R, 0, none⟩ d0).setCell ⟨R, 1, none⟩ d1).setCell ⟨R, 2, none⟩ d2).setCell ⟨R, 3, none⟩ d3).setCell ⟨R, 4, none⟩ d4).setCell ⟨R, 5, none⟩ d5).setCell ⟨R, 6, none⟩ d6).setCell ⟨R, 7, none⟩ d7) :=
 ⟨v, rfl, h.other hR (only8 W R d0 d1 d2 d3 d4 d5 d6 d7), hb.trans ((only8 W R d0 d1 d2 d3 d4 d5 d6 d7).below hw)⟩
def QAt (w : World) (b i : Nat) (v : Value) : Prop := ∃ s a c p, v = .agg #[.bool s, u a, u c, .pointer p] ∧
 w.cell? ⟨b, i, none⟩ = some (.bool s) ∧ w.cell? ⟨b, i + 1, none⟩ = some (u a) ∧ w.cell? ⟨b, i + 2, none⟩ = some (u c) ∧ w.cell? ⟨b, i + 3, none⟩ = some (.pointer p)
theorem QAt.lt {w : World} {b i : Nat} {v : Value} (h : QAt w b i v) : b < w.heap.size := by
 obtain ⟨_, _, _, _, _, h, _⟩ := h
 exact World.block_lt_of_cell? w _ h
theorem QAt.below {w w' : World} {b i k : Nat} {v : Value} (h : QAt w b i v) (hb : Below k w w') (hk : w.heap.size ≤ k) : QAt w' b i v := by
 have hlt := Nat.lt_of_lt_of_le h.lt hk
 obtain ⟨s, a, c, p, hv, h0, h1, h2, h3⟩ := h
 exact ⟨s, a, c, p, hv, (hb.cell (p := ⟨b, i, none⟩) hlt).trans h0, (hb.cell (p := ⟨b, i + 1, none⟩) hlt).trans h1, (hb.cell (p := ⟨b, i + 2, none⟩) hlt).trans h2, (hb.cell (p := ⟨b, i + 3, none⟩) hlt).trans h3⟩
def QSl (w : World) (v : Value) (rs : List Rat) : Prop := ∃ ao cap, v = .slice ao rs.length cap ∧ rs.length ≤ cap ∧ (cap : Int) ≤ 9223372036854775807 ∧
 (0 < rs.length → ∃ b off, ao = some ⟨b, off, none⟩ ∧ ∀ i, i < rs.length → ∃ x, QAt w b (off + i * 4) x ∧ cR w x (rs[i]?.getD 0))
theorem QSl.below {w w' : World} {v : Value} {rs : List Rat} {k : Nat} (h : QSl w v rs) (hb : Below k w w') (hk : w.heap.size ≤ k) : QSl w' v rs := by
 obtain ⟨ao, cap, hv, h1, h2, h3⟩ := h
 refine ⟨ao, cap, hv, h1, h2, fun hn => ?_⟩
 obtain ⟨b, off, ha, h4⟩ := h3 hn
 refine ⟨b, off, ha, fun i hi => ?_⟩
 obtain ⟨x, hx, hq⟩ := h4 i hi
 exact ⟨x, hx.below hb hk, hq.below hb hk⟩
def cJ (r : Rat) (rs : List Rat) : Rat := rs.foldl (fun a x => if x < a then x else a) r
def cC (r : Rat) (rs : List Rat) : Rat := rs.foldl (fun a x => if a < x then x else a) r
theorem lowOf_snoc (r : Rat) (rs : List Rat) (x : Rat) : cJ r (rs ++ [x]) = if x < cJ r rs then x else cJ r rs := by unfold cJ; rw [List.foldl_append]; rfl
theorem highOf_snoc (r : Rat) (rs : List Rat) (x : Rat) : cC r (rs ++ [x]) = if cC r rs < x then x else cC r rs := by unfold cC; rw [List.foldl_append]; rfl
theorem lowOf_mem (r : Rat) (rs : List Rat) : cJ r rs = r ∨ cJ r rs ∈ rs := by
 induction rs generalizing r with
 | nil => exact .inl rfl
 | cons x rs ih =>
  show cJ (if x < r then x else r) rs = r ∨ _
  rcases ih (if x < r then x else r) with h | h
  · rw [show cJ r (x :: rs) = cJ (if x < r then x else r) rs from rfl, h]
    split
    · exact .inr (by simp)
    · exact .inl rfl
  · exact .inr (List.mem_cons_of_mem _ h)
theorem highOf_mem (r : Rat) (rs : List Rat) : cC r rs = r ∨ cC r rs ∈ rs := by
 induction rs generalizing r with
 | nil => exact .inl rfl
 | cons x rs ih =>
  show cC (if r < x then x else r) rs = r ∨ _
  rcases ih (if r < x then x else r) with h | h
  · rw [show cC r (x :: rs) = cC (if r < x then x else r) rs from rfl, h]
    split
    · exact .inr (by simp)
    · exact .inl rfl
  · exact .inr (List.mem_cons_of_mem _ h)
open Go Go.RowKit Go.Proofs Lim
theorem not_lt_of_lt {a b : Rat} (h : a < b) : ¬ b < a := Rat.not_lt.2 (Rat.le_of_lt h)
def ArRel (w : World) (n0 : Nat) (r : Rat) (rs : List Rat) (i : Value) (wr : World) : Prop :=
 ∃ k s1 a1 b1 p1 s2 a2 b2 p2, i = .int .i64 ((k : Nat) : Int) ∧ k ≤ rs.length ∧ cj wr (n0 + 1 + 1) (.bool s1) (u a1) (u b1) (.pointer p1) (.bool s2) (u a2) (u b2) (.pointer p2) ∧
  cR w (.agg #[.bool s1, u a1, u b1, .pointer p1]) (cJ r (rs.take k)) ∧ cR w (.agg #[.bool s2, u a2, u b2, .pointer p2]) (cC r (rs.take k)) ∧
  ZBox8 wr (n0 + 1) ∧ Below w.heap.size w wr
set_option maxHeartbeats 1000000 in
theorem around_any (v sl : Value) (r : Rat) (rs : List Rat) (k : Nat) (w : World) (h : cR w v r) (hs : QSl w sl rs) (z : cF r k) (zs : ∀ x ∈ rs, cF x k) (hk : (k : Int) ≤ 1073741824) (hl : (rs.length : Int) ≤ 1048576) :
 Calls Tryz.prog 105 #[v, sl] w (SpNew w (cJ r rs) (cC r rs)) := by
 have HQ := Lib.hid h
 have hzl : ∀ j, cF (cJ r (rs.take j)) k := fun j => by
  rcases lowOf_mem r (rs.take j) with e | e
  · rw [e]; exact z
  · exact zs _ (List.mem_of_mem_take e)
 have hzh : ∀ j, cF (cC r (rs.take j)) k := fun j => by
  rcases highOf_mem r (rs.take j) with e | e
  · rw [e]; exact z
  · exact zs _ (List.mem_of_mem_take e)
 have HZL := Lib.hid hzl
 have HZH := Lib.hid hzh
 have HZS := Lib.hid zs
 obtain ⟨s0, a0, b0, p0, rfl⟩ := h.form
 obtain ⟨ao, cap, rfl, hc1, hc2, hr⟩ := hs
 have HR := Lib.hid hr
 clear h hr hzl hzh zs z
 go_enter Tryz.func105, Tryz.ntmps105
 go_wp2_with fail
 have hb1 := cu w (.cells #[.bool s0, u a0, u b0, .pointer p0] 26)
 have hz1 := cj.new (w.alloc (.cells #[.bool s0, u a0, u b0, .pointer p0] 26)) (.bool false) (.int .u64 0) (.int .u64 0) (.pointer none) (.bool false) (.int .u64 0) (.int .u64 0) (.pointer none)
 have hs1 : (w.alloc (.cells #[.bool s0, u a0, u b0, .pointer p0] 26)).heap.size = w.heap.size + 1 := World.size_alloc ..
 rw [hs1] at hz1
 have hb2 := cu (w.alloc (.cells #[.bool s0, u a0, u b0, .pointer p0] 26)) (.cells #[.bool false, .int .u64 0, .int .u64 0, .pointer none, .bool false, .int .u64 0, .int .u64 0, .pointer none] 66)
 have hs2 : ((w.alloc (.cells #[.bool s0, u a0, u b0, .pointer p0] 26)).alloc (.cells #[.bool false, .int .u64 0, .int .u64 0, .pointer none, .bool false, .int .u64 0, .int .u64 0, .pointer none] 66)).heap.size = w.heap.size + 1 + 1 := by rw [World.size_alloc, hs1]
 have hb12 := cf hb1 hb2
 obtain ⟨W1, hW1⟩ : ∃ W1, (w.alloc (.cells #[.bool s0, u a0, u b0, .pointer p0] 26)).alloc (.cells #[.bool false, .int .u64 0, .int .u64 0, .pointer none, .bool false, .int .u64 0, .int .u64 0, .pointer none] 66) = W1 := ⟨_, rfl⟩
 rw [hW1] at hz1 hs2 hb12 ⊢
 have hb3 := cu W1 (.cells #[.bool s0, u a0, u b0, .pointer p0, .bool s0, u a0, u b0, .pointer p0] 66)
 have hx := cj.new W1 (.bool s0) (u a0) (u b0) (.pointer p0) (.bool s0) (u a0) (u b0) (.pointer p0)
 rw [hs2] at hx
 have H0 : Hid (ArRel w w.heap.size r rs (.int .i64 0) (W1.alloc (.cells #[.bool s0, u a0, u b0, .pointer p0, .bool s0, u a0, u b0, .pointer p0] 66))) := by
  refine ⟨0, s0, a0, b0, p0, s0, a0, b0, p0, rfl, Nat.zero_le _, hx, HQ.out, HQ.out, ?_, cf hb12 hb3⟩
  exact cj.below hz1 hb3 (Nat.le_refl _)
 clear hW1 hb1 hb2 hb3 hb12 hz1 hs1 hs2 hx
 generalize W1.alloc (.cells #[.bool s0, u a0, u b0, .pointer p0, .bool s0, u a0, u b0, .pointer p0] 66) = W2 at *
 go_loopw [13] (fun i wr => Hid (ArRel w w.heap.size r rs i wr)) (fun i _ => rs.length - (intOf i).toNat)
 case atStart => exact H0
 case round =>
  clear H0 HQ
  obtain ⟨j, s1, a1, b1, p1, s2, a2, b2, p2, rfl, hj, hX, hQ1, hQ2, hZ, hB⟩ := hrel.out
  clear hrel
  by_cases hlt : j < rs.length
  · obtain ⟨b, off, rfl, hel⟩ := HR.out (by omega)
    obtain ⟨x, hxat, hxq⟩ := hel j hlt
    have hsn : rs.take (j + 1) = rs.take j ++ [rs[j]?.getD 0] := by
     rw [List.take_succ_eq_append_getElem hlt, List.getElem?_eq_getElem hlt]; rfl
    have hzx := HZS.out (rs[j]?.getD 0) (by rw [List.getElem?_eq_getElem hlt]; exact List.getElem_mem hlt)
    have e1 := lowOf_snoc r (rs.take j) (rs[j]?.getD 0)
    have e2 := highOf_snoc r (rs.take j) (rs[j]?.getD 0)
    rw [← hsn] at e1 e2
    have zl := HZL.out j
    have zh := HZH.out j
    generalize rs[j]?.getD 0 = t at *
    have hxw := hxat.below hB (Nat.le_refl _)
    obtain ⟨sx, ax, bx, px, rfl, k0, k1, k2, k3⟩ := hxw
    have HC := Lib.hid (fun s a b p m W (hm : cR w (.agg #[.bool s, u a, u b, .pointer p]) m) (zm : cF m k) (hW : Below w.heap.size w W) => cmp_q _ _ t m k W (hxq.below hW (Nat.le_refl _)) (hm.below hW (Nat.le_refl _)) hzx zm hk)
    have HX := Lib.hid hX
    have HZ := Lib.hid hZ
    have HB := Lib.hid hB
    have HQ1 := Lib.hid hQ1
    have HQ2 := Lib.hid hQ2
    have HQx := Lib.hid hxq
    have E1 := Lib.hid e1
    have E2 := Lib.hid e2
    have Zl := Lib.hid zl
    have Zh := Lib.hid zh
    clear hX hZ hB hQ1 hQ2 hxat hxq e1 e2 zl zh hzx hsn hel HR HZL HZH HZS
    generalize cJ r (rs.take j) = lo at *
    generalize cC r (rs.take j) = hi at *
    obtain ⟨c0, c1, c2, c3, c4, c5, c6, c7⟩ := HX.out.cells
    have ltz : w.heap.size + 1 + 1 < wr.heap.size := HX.out.lt
    go_wp2_with fail
    obtain ⟨W3, hW, hb, ⟨g0, g1, g2, g3⟩⟩ := box1 wr (.bool sx) (u ax) (u bx) (.pointer px); rw [← hW]; clear hW
    have HX := Lib.hid (HX.out.below hb (Nat.le_refl _))
    have HZ := Lib.hid (cj.below HZ.out hb (Nat.le_refl _))
    have HB := Lib.hid (cf HB.out hb)
    have m1 : ¬ wr.heap.size = w.heap.size + 1 + 1 := by omega
    have m2 : ¬ w.heap.size + 1 + 1 = wr.heap.size := by omega
    have n5 : w.heap.size + 1 ≠ w.heap.size + 1 + 1 := by omega
    clear c0 c1 c2 c3 c4 c5 c6 c7
    clear hb ltz k0 k1 k2 k3
    generalize wr.heap.size = bX at *
    refine (HC.out s1 a1 b1 p1 lo W3 HQ1.out Zl.out HB.out).mono ?_
    rintro e W4 ⟨rfl, hb⟩
    (have hh := cq (b := bX) hb g0 g1 g2 g3; clear g0 g1 g2 g3; obtain ⟨g0, g1, g2, g3⟩ := hh)
    have HX := Lib.hid (HX.out.below hb (Nat.le_refl _))
    have HZ := Lib.hid (cj.below HZ.out hb (Nat.le_refl _))
    have HB := Lib.hid (cf HB.out hb)
    clear hb
    obtain ⟨c0, c1, c2, c3, c4, c5, c6, c7⟩ := HX.out.cells
    have zf0 := HX.out.frozen 0
    have zf1 := HX.out.frozen 1
    have zf2 := HX.out.frozen 2
    have zf3 := HX.out.frozen 3
    have zf4 := HX.out.frozen 4
    have zf5 := HX.out.frozen 5
    have zf6 := HX.out.frozen 6
    have zf7 := HX.out.frozen 7
    by_cases hcl : t < lo
    · have hcn : cmpQ t lo < 0 := by unfold cmpQ; rw [if_pos hcl]; decide
      have H1 := Lib.hid hcl
      clear hcl
      generalize cmpQ t lo = c at *
      go_wp2_with fail
      have hX' := HX.out.setLow (.bool sx) (u ax) (u bx) (.pointer px)
      have hO' := only4 W4 (w.heap.size + 1 + 1) 0 (.bool sx) (u ax) (u bx) (.pointer px)
      have hZ' : ZBox8 _ (w.heap.size + 1) := cj.of_block HZ.out (hO'.block (w.heap.size + 1) n5)
      have hB' := HB.out.trans (hO'.below (show w.heap.size ≤ w.heap.size + 1 + 1 by omega))
      have i0 := (hO'.cell (p := ⟨bX, 0, none⟩) m1).trans g0
      have i1 := (hO'.cell (p := ⟨bX, 1, none⟩) m1).trans g1
      have i2 := (hO'.cell (p := ⟨bX, 2, none⟩) m1).trans g2
      have i3 := (hO'.cell (p := ⟨bX, 3, none⟩) m1).trans g3
      clear g0 g1 g2 g3 HX HZ HB hO'
      clear c0 c1 c2 c3 c4 c5 c6 c7
      clear zf0 zf1 zf2 zf3 zf4 zf5 zf6 zf7
      obtain ⟨W5, hW5⟩ : ∃ W5, (((W4.setCell ⟨w.heap.size + 1 + 1, 0, none⟩ (.bool sx)).setCell ⟨w.heap.size + 1 + 1, 1, none⟩ (u ax)).setCell ⟨w.heap.size + 1 + 1, 2, none⟩ (u bx)).setCell ⟨w.heap.size + 1 + 1, 3, none⟩ (.pointer px) = W5 := ⟨_, rfl⟩
      simp only [Nat.zero_add] at hZ' hB' i0 i1 i2 i3
      rw [hW5] at hX' hZ' hB' i0 i1 i2 i3 ⊢
      have HX := Lib.hid hX'
      have HZ := Lib.hid hZ'
      have HB := Lib.hid hB'
      have g0 := i0
      have g1 := i1
      have g2 := i2
      have g3 := i3
      clear hX' hZ' hB' hW5 i0 i1 i2 i3
      refine (HC.out s2 a2 b2 p2 hi W5 HQ2.out Zh.out HB.out).mono ?_
      rintro e W6 ⟨rfl, hb⟩
      (have hh := cq (b := bX) hb g0 g1 g2 g3; clear g0 g1 g2 g3; obtain ⟨g0, g1, g2, g3⟩ := hh)
      have HX := Lib.hid (HX.out.below hb (Nat.le_refl _))
      have HZ := Lib.hid (cj.below HZ.out hb (Nat.le_refl _))
      have HB := Lib.hid (cf HB.out hb)
      clear hb HC
      obtain ⟨c0, c1, c2, c3, c4, c5, c6, c7⟩ := HX.out.cells
      have zf0 := HX.out.frozen 0
      have zf1 := HX.out.frozen 1
      have zf2 := HX.out.frozen 2
      have zf3 := HX.out.frozen 3
      have zf4 := HX.out.frozen 4
      have zf5 := HX.out.frozen 5
      have zf6 := HX.out.frozen 6
      have zf7 := HX.out.frozen 7
      by_cases hch : hi < t
      · have hcn : (0 : Int) < cmpQ t hi := by unfold cmpQ; rw [if_neg (not_lt_of_lt hch), if_pos hch]; decide
        have H2 := Lib.hid hch
        have HX' := Lib.hid (HX.out.setHigh (.bool sx) (u ax) (u bx) (.pointer px))
        have HZ' := Lib.hid (cj.of_block HZ.out ((only4 W6 (w.heap.size + 1 + 1) 4 (.bool sx) (u ax) (u bx) (.pointer px)).block (w.heap.size + 1) n5))
        have HB' := Lib.hid (HB.out.trans ((only4 W6 (w.heap.size + 1 + 1) 4 (.bool sx) (u ax) (u bx) (.pointer px)).below (by omega)))
        clear HX HZ HB hch
        have HX := HX'
        have HZ := HZ'
        have HB := HB'
        clear HX' HZ' HB'
        generalize cmpQ t hi = cc at *
        go_wp2_with fail
        go_roundw
        case rel => exact ⟨j + 1, sx, ax, bx, px, sx, ax, bx, px, by go_num, by omega, HX.out, by rw [E1.out, if_pos H1.out]; exact HQx.out, by rw [E2.out, if_pos H2.out]; exact HQx.out, HZ.out, HB.out⟩
        case measure => simp [intOf]; omega
      · have hcn : ¬ (0 : Int) < cmpQ t hi := by unfold cmpQ; rw [if_neg hch]; split <;> decide
        have H2 := Lib.hid hch
        clear hch
        generalize cmpQ t hi = cc at *
        go_wp2_with fail
        go_roundw
        case rel => exact ⟨j + 1, sx, ax, bx, px, s2, a2, b2, p2, by go_num, by omega, HX.out, by rw [E1.out, if_pos H1.out]; exact HQx.out, by rw [E2.out, if_neg H2.out]; exact HQ2.out, HZ.out, HB.out⟩
        case measure => simp [intOf]; omega
    · have hcn : ¬ cmpQ t lo < 0 := by unfold cmpQ; rw [if_neg hcl]; split <;> decide
      have H1 := Lib.hid hcl
      clear hcl
      generalize cmpQ t lo = c at *
      go_wp2_with fail
      clear c0 c1 c2 c3 c4 c5 c6 c7
      clear zf0 zf1 zf2 zf3 zf4 zf5 zf6 zf7
      refine (HC.out s2 a2 b2 p2 hi W4 HQ2.out Zh.out HB.out).mono ?_
      rintro e W6 ⟨rfl, hb⟩
      (have hh := cq (b := bX) hb g0 g1 g2 g3; clear g0 g1 g2 g3; obtain ⟨g0, g1, g2, g3⟩ := hh)
      have HX := Lib.hid (HX.out.below hb (Nat.le_refl _))
      have HZ := Lib.hid (cj.below HZ.out hb (Nat.le_refl _))
      have HB := Lib.hid (cf HB.out hb)
      clear hb HC
      obtain ⟨c0, c1, c2, c3, c4, c5, c6, c7⟩ := HX.out.cells
      have zf0 := HX.out.frozen 0
      have zf1 := HX.out.frozen 1
      have zf2 := HX.out.frozen 2
      have zf3 := HX.out.frozen 3
      have zf4 := HX.out.frozen 4
      have zf5 := HX.out.frozen 5
      have zf6 := HX.out.frozen 6
      have zf7 := HX.out.frozen 7
      by_cases hch : hi < t
      · have hcn : (0 : Int) < cmpQ t hi := by unfold cmpQ; rw [if_neg (not_lt_of_lt hch), if_pos hch]; decide
        have H2 := Lib.hid hch
        have HX' := Lib.hid (HX.out.setHigh (.bool sx) (u ax) (u bx) (.pointer px))
        have HZ' := Lib.hid (cj.of_block HZ.out ((only4 W6 (w.heap.size + 1 + 1) 4 (.bool sx) (u ax) (u bx) (.pointer px)).block (w.heap.size + 1) n5))
        have HB' := Lib.hid (HB.out.trans ((only4 W6 (w.heap.size + 1 + 1) 4 (.bool sx) (u ax) (u bx) (.pointer px)).below (by omega)))
        clear HX HZ HB hch
        have HX := HX'
        have HZ := HZ'
        have HB := HB'
        clear HX' HZ' HB'
        generalize cmpQ t hi = cc at *
        go_wp2_with fail
        go_roundw
        case rel => exact ⟨j + 1, s1, a1, b1, p1, sx, ax, bx, px, by go_num, by omega, HX.out, by rw [E1.out, if_neg H1.out]; exact HQ1.out, by rw [E2.out, if_pos H2.out]; exact HQx.out, HZ.out, HB.out⟩
        case measure => simp [intOf]; omega
      · have hcn : ¬ (0 : Int) < cmpQ t hi := by unfold cmpQ; rw [if_neg hch]; split <;> decide
        have H2 := Lib.hid hch
        clear hch
        generalize cmpQ t hi = cc at *
        go_wp2_with fail
        go_roundw
        case rel => exact ⟨j + 1, s1, a1, b1, p1, s2, a2, b2, p2, by go_num, by omega, HX.out, by rw [E1.out, if_neg H1.out]; exact HQ1.out, by rw [E2.out, if_neg H2.out]; exact HQ2.out, HZ.out, HB.out⟩
        case measure => simp [intOf]; omega
  · obtain rfl : j = rs.length := by omega
    have hS : IsS w (.agg #[.bool s1, u a1, u b1, .pointer p1, .bool s2, u a2, u b2, .pointer p2]) (cJ r rs) (cC r rs) := by
     rw [List.take_length] at hQ1 hQ2
     exact ⟨s1, a1, b1, p1, s2, a2, b2, p2, rfl, hQ1, hQ2⟩
    have hfin := SpNew.stored (cj.nbox hZ) (hS.below hB (Nat.le_refl _)) hB (show w.heap.size ≤ w.heap.size + 1 by omega) (.bool s1) (u a1) (u b1) (.pointer p1) (.bool s2) (u a2) (u b2) (.pointer p2)
    have HFin := Lib.hid hfin
    obtain ⟨c0, c1, c2, c3, c4, c5, c6, c7⟩ := hX.cells
    obtain ⟨z0, z1, z2, z3, z4, z5, z6, z7⟩ := cj.cells hZ
    have zf0 := cj.frozen hZ 0
    have zf1 := cj.frozen hZ 1
    have zf2 := cj.frozen hZ 2
    have zf3 := cj.frozen hZ 3
    have zf4 := cj.frozen hZ 4
    have zf5 := cj.frozen hZ 5
    have zf6 := cj.frozen hZ 6
    have zf7 := cj.frozen hZ 7
    have n6 : ¬ w.heap.size + 1 = w.heap.size + 1 + 1 := by omega
    have n7 : ¬ w.heap.size + 1 + 1 = w.heap.size + 1 := by omega
    clear hfin hS hQ1 hQ2 hX hZ hB hlt
    go_wp2_with fail
    refine bodyPost_ret (v := .agg #[.bool s1, u a1, u b1, .pointer p1, .bool s2, u a2, u b2, .pointer p2]) (by simp [results, Tryz.results105, go_sem, z0, z1, z2, z3, z4, z5, z6, z7]) rfl ?_
    exact HFin.out
open Go Go.RowKit Go.Proofs Lim
theorem qsl1 (w : World) (s : Bool) (a b : Nat) (p : Option Addr) (r : Rat) (h : cR w (.agg #[.bool s, u a, u b, .pointer p]) r) :
 QSl (w.alloc (.cells #[.bool s, u a, u b, .pointer p] 26)) (.slice (some ⟨w.heap.size, 0, none⟩) 1 1) [r] := by
 have hb := cu w (.cells #[.bool s, u a, u b, .pointer p] 26)
 refine ⟨_, 1, rfl, Nat.le_refl _, by decide, fun _ => ⟨w.heap.size, 0, rfl, fun i hi => ?_⟩⟩
 have : i = 0 := by simpa using hi
 subst this
 refine ⟨_, ⟨s, a, b, p, rfl, ?_, ?_, ?_, ?_⟩, h.below hb (Nat.le_refl _)⟩
 all_goals exact World.cell?_alloc_new ..
theorem qsl3 (w : World) (s1 s2 s3 : Bool) (a1 b1 a2 b2 a3 b3 : Nat) (p1 p2 p3 : Option Addr) (r1 r2 r3 : Rat) (h1 : cR w (.agg #[.bool s1, u a1, u b1, .pointer p1]) r1)
 (h2 : cR w (.agg #[.bool s2, u a2, u b2, .pointer p2]) r2) (h3 : cR w (.agg #[.bool s3, u a3, u b3, .pointer p3]) r3) :
 QSl (w.alloc (.cells #[.bool s1, u a1, u b1, .pointer p1, .bool s2, u a2, u b2, .pointer p2, .bool s3, u a3, u b3, .pointer p3] 26)) (.slice (some ⟨w.heap.size, 0, none⟩) 3 3) [r1, r2, r3] := by
 have hb := cu w (.cells #[.bool s1, u a1, u b1, .pointer p1, .bool s2, u a2, u b2, .pointer p2, .bool s3, u a3, u b3, .pointer p3] 26)
 refine ⟨_, 3, rfl, Nat.le_refl _, by decide, fun _ => ⟨w.heap.size, 0, rfl, fun i hi => ?_⟩⟩
 have hi : i < 3 := hi
 rcases i with _ | _ | _ | i
 · refine ⟨_, ⟨s1, a1, b1, p1, rfl, ?_, ?_, ?_, ?_⟩, h1.below hb (Nat.le_refl _)⟩
   all_goals exact World.cell?_alloc_new ..
 · refine ⟨_, ⟨s2, a2, b2, p2, rfl, ?_, ?_, ?_, ?_⟩, h2.below hb (Nat.le_refl _)⟩
   all_goals exact World.cell?_alloc_new ..
 · refine ⟨_, ⟨s3, a3, b3, p3, rfl, ?_, ?_, ?_, ?_⟩, h3.below hb (Nat.le_refl _)⟩
   all_goals exact World.cell?_alloc_new ..
 · omega
theorem box8z (w : World) (c0 c1 c2 c3 c4 c5 c6 c7 : Value) : ∃ W, (w.alloc (.cells #[c0, c1, c2, c3, c4, c5, c6, c7] 66)).alloc (.cells #[.bool false, .int .u64 0, .int .u64 0, .pointer none, .bool false, .int .u64 0, .int .u64 0, .pointer none] 66) = W ∧
 Below w.heap.size w W ∧ cj W w.heap.size c0 c1 c2 c3 c4 c5 c6 c7 ∧ ZBox8 W (w.heap.size + 1) ∧ W.heap.size = w.heap.size + 1 + 1 := by
 have hb1 := cu w (.cells #[c0, c1, c2, c3, c4, c5, c6, c7] 66)
 have h1 := cj.new w c0 c1 c2 c3 c4 c5 c6 c7
 have hs1 : (w.alloc (.cells #[c0, c1, c2, c3, c4, c5, c6, c7] 66)).heap.size = w.heap.size + 1 := World.size_alloc ..
 generalize w.alloc (.cells #[c0, c1, c2, c3, c4, c5, c6, c7] 66) = W1 at *
 have hb2 := cu W1 (.cells #[.bool false, .int .u64 0, .int .u64 0, .pointer none, .bool false, .int .u64 0, .int .u64 0, .pointer none] 66)
 have h2 := cj.new W1 (.bool false) (.int .u64 0) (.int .u64 0) (.pointer none) (.bool false) (.int .u64 0) (.int .u64 0) (.pointer none)
 rw [hs1] at h2
 exact ⟨_, rfl, cf hb1 hb2, h1.below hb2 (Nat.le_refl _), h2, by rw [World.size_alloc, hs1]⟩
theorem sorted_any (v : Value) (lo hi : Rat) (k : Nat) (w : World) (h : IsS w v lo hi) (z1 : cF lo k) (z2 : cF hi k) (hk : (k : Int) ≤ 1073741824) :
 Calls Tryz.prog 108 #[v] w (SpNew w (cJ lo [hi]) (cC lo [hi])) := by
 obtain ⟨s1, a1, b1, p1, s2, a2, b2, p2, rfl, h1, h2⟩ := h
 have HA := Lib.hid (fun sl W (hW : Below w.heap.size w W) (hs : QSl W sl [hi]) => around_any _ sl lo [hi] k W (h1.below hW (Nat.le_refl _)) hs z1 (by intro x hx; simp at hx; subst hx; exact z2) hk (by simp))
 have H2 := Lib.hid h2
 clear h1 h2 z1 z2 hk
 go_enter Tryz.func108, Tryz.ntmps108
 go_wp2_with fail
 obtain ⟨W0, hW0, hb0, _, hz, hs⟩ := box8z w (.bool s1) (u a1) (u b1) (.pointer p1) (.bool s2) (u a2) (u b2) (.pointer p2)
 rw [hW0]
 have hb1 := cu W0 (.cells #[.bool s2, u a2, u b2, .pointer p2] 26)
 have hq := qsl1 W0 s2 a2 b2 p2 hi (H2.out.below hb0 (Nat.le_refl _))
 rw [hs] at hq
 refine (HA.out _ _ (cf hb0 hb1) hq).mono ?_
 rintro e W9 ⟨v, rfl, hv, hb⟩
 have hb9 := cf (cf hb0 hb1) hb
 have hz9 : ZBox8 W9 (w.heap.size + 1) := cj.below (cj.below hz hb1 (Nat.le_refl _)) hb (Nat.le_refl _)
 have HB9 := Lib.hid hb9
 clear hb0 hb1 hq hz hs hW0 hb9 HA
 (have hv' := hv; obtain ⟨t1, d1, e1, q1, t2, d2, e2, q2, rfl, _, _⟩ := hv'; have HFin := Lib.hid (SpNew.stored (cj.nbox hz9) hv HB9.out (by omega) (.bool t1) (u d1) (u e1) (.pointer q1) (.bool t2) (u d2) (u e2) (.pointer q2)); (obtain ⟨z0, z1, z2, z3, z4, z5, z6, z7⟩ := cj.cells hz9; have zf0 := cj.frozen hz9 0; have zf1 := cj.frozen hz9 1; have zf2 := cj.frozen hz9 2; have zf3 := cj.frozen hz9 3; have zf4 := cj.frozen hz9 4; have zf5 := cj.frozen hz9 5; have zf6 := cj.frozen hz9 6; have zf7 := cj.frozen hz9 7); clear hv hz9; clear hb; go_wp2_with fail; refine bodyPost_ret (v := .agg #[.bool t1, u d1, u e1, .pointer q1, .bool t2, u d2, u e2, .pointer q2]) (by simp [results, Tryz.results108, go_sem, z0, z1, z2, z3, z4, z5, z6, z7]) rfl ?_; exact HFin.out)
theorem between_any (v1 v2 : Value) (r s : Rat) (k : Nat) (w : World) (h1 : cR w v1 r) (h2 : cR w v2 s) (z1 : cF r k) (z2 : cF s k) (hk : (k : Int) ≤ 1073741824) :
 Calls Tryz.prog 55 #[v1, v2] w (SpNew w (cJ r [s]) (cC r [s])) := by
 have HA := Lib.hid (fun sl W (hW : Below w.heap.size w W) (hs : QSl W sl [s]) => around_any v1 sl r [s] k W (h1.below hW (Nat.le_refl _)) hs z1 (by intro x hx; simp at hx; subst hx; exact z2) hk (by simp))
 have H2 := Lib.hid h2
 obtain ⟨s1, a1, b1, p1, rfl⟩ := h1.form
 obtain ⟨s2, a2, b2, p2, rfl⟩ := h2.form
 clear h1 h2 z1 z2 hk
 go_enter Tryz.func55, Tryz.ntmps55
 go_wp2_with fail
 obtain ⟨W1, hW1, hb1, _, _⟩ := box2 w (.bool s1) (u a1) (u b1) (.pointer p1) (.bool s2) (u a2) (u b2) (.pointer p2)
 have hs1 : W1.heap.size = w.heap.size + 1 + 1 := by rw [hW1, World.size_alloc, World.size_alloc]
 rw [← hW1]
 have hb2 := cu W1 (.cells #[.bool false, .int .u64 0, .int .u64 0, .pointer none, .bool false, .int .u64 0, .int .u64 0, .pointer none] 66)
 have hz := cj.new W1 (.bool false) (.int .u64 0) (.int .u64 0) (.pointer none) (.bool false) (.int .u64 0) (.int .u64 0) (.pointer none)
 have hs2 : (W1.alloc (.cells #[.bool false, .int .u64 0, .int .u64 0, .pointer none, .bool false, .int .u64 0, .int .u64 0, .pointer none] 66)).heap.size = w.heap.size + 1 + 1 + 1 := by rw [World.size_alloc, hs1]
 rw [hs1] at hz
 have hb0 := cf hb1 hb2
 clear hb1 hb2 hW1
 generalize W1.alloc (.cells #[.bool false, .int .u64 0, .int .u64 0, .pointer none, .bool false, .int .u64 0, .int .u64 0, .pointer none] 66) = W0 at *
 have hb1 := cu W0 (.cells #[.bool s2, u a2, u b2, .pointer p2] 26)
 have hq := qsl1 W0 s2 a2 b2 p2 s (H2.out.below hb0 (Nat.le_refl _))
 rw [hs2] at hq
 refine (HA.out _ _ (cf hb0 hb1) hq).mono ?_
 rintro e W9 ⟨v, rfl, hv, hb⟩
 have hb9 := cf (cf hb0 hb1) hb
 have hz9 : ZBox8 W9 (w.heap.size + 1 + 1) := cj.below (cj.below hz hb1 (Nat.le_refl _)) hb (Nat.le_refl _)
 have HB9 := Lib.hid hb9
 clear hb0 hb1 hq hz hs2 hs1 hb9 HA
 (have hv' := hv; obtain ⟨t1, d1, e1, q1, t2, d2, e2, q2, rfl, _, _⟩ := hv'; have HFin := Lib.hid (SpNew.stored (cj.nbox hz9) hv HB9.out (by omega) (.bool t1) (u d1) (u e1) (.pointer q1) (.bool t2) (u d2) (u e2) (.pointer q2)); (obtain ⟨z0, z1, z2, z3, z4, z5, z6, z7⟩ := cj.cells hz9; have zf0 := cj.frozen hz9 0; have zf1 := cj.frozen hz9 1; have zf2 := cj.frozen hz9 2; have zf3 := cj.frozen hz9 3; have zf4 := cj.frozen hz9 4; have zf5 := cj.frozen hz9 5; have zf6 := cj.frozen hz9 6; have zf7 := cj.frozen hz9 7); clear hv hz9; clear hb; go_wp2_with fail; refine bodyPost_ret (v := .agg #[.bool t1, u d1, u e1, .pointer q1, .bool t2, u d2, u e2, .pointer q2]) (by simp [results, Tryz.results55, go_sem, z0, z1, z2, z3, z4, z5, z6, z7]) rfl ?_; exact HFin.out)
theorem box88z (w : World) (c0 c1 c2 c3 c4 c5 c6 c7 d0 d1 d2 d3 d4 d5 d6 d7 : Value) : ∃ W, ((w.alloc (.cells #[c0, c1, c2, c3, c4, c5, c6, c7] 66)).alloc (.cells #[d0, d1, d2, d3, d4, d5, d6, d7] 66)).alloc (.cells #[.bool false, .int .u64 0, .int .u64 0, .pointer none, .bool false, .int .u64 0, .int .u64 0, .pointer none] 66) = W ∧
 Below w.heap.size w W ∧ cj W w.heap.size c0 c1 c2 c3 c4 c5 c6 c7 ∧ cj W (w.heap.size + 1) d0 d1 d2 d3 d4 d5 d6 d7 ∧ ZBox8 W (w.heap.size + 1 + 1) ∧ W.heap.size = w.heap.size + 1 + 1 + 1 := by
 have hb1 := cu w (.cells #[c0, c1, c2, c3, c4, c5, c6, c7] 66)
 have h1 := cj.new w c0 c1 c2 c3 c4 c5 c6 c7
 have hs1 : (w.alloc (.cells #[c0, c1, c2, c3, c4, c5, c6, c7] 66)).heap.size = w.heap.size + 1 := World.size_alloc ..
 generalize w.alloc (.cells #[c0, c1, c2, c3, c4, c5, c6, c7] 66) = W1 at *
 obtain ⟨W2, hW2, hb2, h2, h3, hs2⟩ := box8z W1 d0 d1 d2 d3 d4 d5 d6 d7
 rw [hs1] at h2 h3 hs2
 exact ⟨W2, hW2, cf hb1 hb2, h1.below hb2 (Nat.le_refl _), h2, h3, hs2⟩
open Go Go.RowKit Go.Proofs Lim
theorem cmpQ_le {r s : Rat} : cmpQ r s ≤ 0 ↔ r ≤ s := by
 unfold cmpQ
 by_cases h1 : r < s
 · rw [if_pos h1]; exact ⟨fun _ => Rat.le_of_lt h1, fun _ => by decide⟩
 · rw [if_neg h1]
   by_cases h2 : s < r
   · rw [if_pos h2]; exact ⟨fun h => absurd h (by decide), fun h => absurd h2 (Rat.not_lt.2 h)⟩
   · rw [if_neg h2]; exact ⟨fun _ => Rat.not_lt.1 h2, fun _ => by decide⟩
theorem lowOf_siz {r : Rat} {rs : List Rat} {k : Nat} (z : cF r k) (zs : ∀ x ∈ rs, cF x k) : cF (cJ r rs) k := by
 rcases lowOf_mem r rs with e | e
 · rw [e]; exact z
 · exact zs _ e
theorem highOf_siz {r : Rat} {rs : List Rat} {k : Nat} (z : cF r k) (zs : ∀ x ∈ rs, cF x k) : cF (cC r rs) k := by
 rcases highOf_mem r rs with e | e
 · rw [e]; exact z
 · exact zs _ e
theorem siz1 {s : Rat} {k : Nat} (z : cF s k) : ∀ x ∈ [s], cF x k := by intro x hx; simp at hx; subst hx; exact z
theorem cj.set8 {W : World} {b : Nat} {c0 c1 c2 c3 c4 c5 c6 c7 : Value} (h : cj W b c0 c1 c2 c3 c4 c5 c6 c7) (d0 d1 d2 d3 d4 d5 d6 d7 : Value) :
 cj ((((((((W.setCell ⟨b, 0, none⟩ d0).setCell ⟨b, 1, none⟩ d1).setCell ⟨b, 2, none⟩ d2).setCell ⟨b, 3, none⟩ d3).setCell ⟨b, 4, none⟩ d4).setCell ⟨b, 5, none⟩ d5).setCell ⟨b, 6, none⟩ d6).setCell ⟨b, 7, none⟩ d7) b d0 d1 d2 d3 d4 d5 d6 d7 :=
 (h.setLow d0 d1 d2 d3).setHigh d4 d5 d6 d7
theorem cN.box {b c : Nat} {w w' : World} {a0 a1 a2 a3 : Value} (h : cN b w w') (hc : ¬ c = b) (h0 : w.cell? ⟨c, 0, none⟩ = some a0) (h1 : w.cell? ⟨c, 1, none⟩ = some a1) (h2 : w.cell? ⟨c, 2, none⟩ = some a2) (h3 : w.cell? ⟨c, 3, none⟩ = some a3) :
 w'.cell? ⟨c, 0, none⟩ = some a0 ∧ w'.cell? ⟨c, 1, none⟩ = some a1 ∧ w'.cell? ⟨c, 2, none⟩ = some a2 ∧ w'.cell? ⟨c, 3, none⟩ = some a3 :=
 ⟨(h.cell (p := ⟨c, 0, none⟩) hc).trans h0, (h.cell (p := ⟨c, 1, none⟩) hc).trans h1, (h.cell (p := ⟨c, 2, none⟩) hc).trans h2, (h.cell (p := ⟨c, 3, none⟩) hc).trans h3⟩
def jv (lo hi x : Rat) : Bool := decide (cJ lo [hi] ≤ x) && decide (x ≤ cC lo [hi])
theorem has_any (v vx : Value) (lo hi x : Rat) (k : Nat) (w : World) (h : IsS w v lo hi) (hx : cR w vx x) (z1 : cF lo k) (z2 : cF hi k) (z3 : cF x k) (hk : (k : Int) ≤ 1073741824) :
 Calls Tryz.prog 56 #[v, vx] w (Val w (.bool (jv lo hi x))) := by
 have HS := Lib.hid (fun W (hW : Below w.heap.size w W) => sorted_any v lo hi k W (h.below hW (Nat.le_refl _)) z1 z2 hk)
 have zl := lowOf_siz z1 (siz1 z2)
 have zh := highOf_siz z1 (siz1 z2)
 unfold jv
 generalize cJ lo [hi] = l at *
 generalize cC lo [hi] = g at *
 have HC1 := Lib.hid (fun v1 W (h1 : cR W v1 l) (hW : Below w.heap.size w W) => cmp_q v1 vx l x k W h1 (hx.below hW (Nat.le_refl _)) zl z3 hk)
 have HC2 := Lib.hid (fun v1 W (h1 : cR W v1 g) (hW : Below w.heap.size w W) => cmp_q vx v1 x g k W (hx.below hW (Nat.le_refl _)) h1 z3 zh hk)
 obtain ⟨s1, a1, b1, p1, s2, a2, b2, p2, rfl, _, _⟩ := h
 obtain ⟨s3, a3, b3, p3, rfl⟩ := hx.form
 clear hx z1 z2 z3 hk zl zh
 go_enter Tryz.func56, Tryz.ntmps56
 go_wp2_with fail
 have hb1 := cu w (.cells #[.bool s1, u a1, u b1, .pointer p1, .bool s2, u a2, u b2, .pointer p2] 66)
 have hs1 : (w.alloc (.cells #[.bool s1, u a1, u b1, .pointer p1, .bool s2, u a2, u b2, .pointer p2] 66)).heap.size = w.heap.size + 1 := World.size_alloc ..
 have hB := cj.new w (.bool s1) (u a1) (u b1) (.pointer p1) (.bool s2) (u a2) (u b2) (.pointer p2)
 obtain ⟨W1, hW1⟩ : ∃ W1, w.alloc (.cells #[.bool s1, u a1, u b1, .pointer p1, .bool s2, u a2, u b2, .pointer p2] 66) = W1 := ⟨_, rfl⟩
 rw [hW1] at hb1 hs1 hB ⊢
 obtain ⟨W0, hW0, hb2, ⟨g0, g1, g2, g3⟩⟩ := box1 W1 (.bool s3) (u a3) (u b3) (.pointer p3)
 rw [← hW0]
 rw [hs1] at g0 g1 g2 g3
 have hB := cj.below hB hb2 (Nat.le_refl _)
 have hb0 := cf hb1 hb2
 have n1 : ¬ w.heap.size = w.heap.size + 1 := by omega
 have n2 : ¬ w.heap.size + 1 = w.heap.size := by omega
 clear hW1 hW0 hb1 hb2 hs1
 refine (HS.out _ hb0).mono ?_
 rintro e W2 ⟨v, rfl, hv, hb⟩
 (have hh := cq (b := w.heap.size + 1) hb g0 g1 g2 g3; clear g0 g1 g2 g3; obtain ⟨g0, g1, g2, g3⟩ := hh)
 have hB := cj.below hB hb (Nat.le_refl _)
 have hA := cf hb0 hb
 obtain ⟨t1, d1, e1, q1, t2, d2, e2, q2, rfl, h1, h2⟩ := hv
 have ho := only8 W2 w.heap.size (.bool t1) (u d1) (u e1) (.pointer q1) (.bool t2) (u d2) (u e2) (.pointer q2)
 have H1 := Lib.hid (h1.other hB.nbox ho)
 have H2 := Lib.hid (h2.other hB.nbox ho)
 have HA := Lib.hid (hA.trans (ho.below (Nat.le_refl _)))
 have HX := Lib.hid (hB.set8 (.bool t1) (u d1) (u e1) (.pointer q1) (.bool t2) (u d2) (u e2) (.pointer q2))
 have HG := Lib.hid (ho.box n2 g0 g1 g2 g3)
 (obtain ⟨c0, c1, c2, c3, c4, c5, c6, c7⟩ := hB.cells)
 (have cf0 := cj.frozen hB 0; have cf1 := cj.frozen hB 1; have cf2 := cj.frozen hB 2; have cf3 := cj.frozen hB 3; have cf4 := cj.frozen hB 4; have cf5 := cj.frozen hB 5; have cf6 := cj.frozen hB 6; have cf7 := cj.frozen hB 7)
 clear hB hb hb0 hA h1 h2 ho HS
 have hn1 : decide (cmpQ l x ≤ 0) = decide (l ≤ x) := by rw [decide_eq_decide]; exact cmpQ_le
 have hn2 : decide (cmpQ x g ≤ 0) = decide (x ≤ g) := by rw [decide_eq_decide]; exact cmpQ_le
 generalize cmpQ l x = m1 at *
 generalize cmpQ x g = m2 at *
 generalize decide (l ≤ x) = r1 at *
 generalize decide (x ≤ g) = r2 at *
 go_wp2_with fail
 clear c0 c1 c2 c3 c4 c5 c6 c7 cf0 cf1 cf2 cf3 cf4 cf5 cf6 cf7 g0 g1 g2 g3
 obtain ⟨WS, hWS⟩ : ∃ WS, (((((((W2.setCell ⟨w.heap.size, 0, none⟩ (.bool t1)).setCell ⟨w.heap.size, 1, none⟩ (u d1)).setCell ⟨w.heap.size, 2, none⟩ (u e1)).setCell ⟨w.heap.size, 3, none⟩ (.pointer q1)).setCell ⟨w.heap.size, 4, none⟩ (.bool t2)).setCell ⟨w.heap.size, 5, none⟩ (u d2)).setCell ⟨w.heap.size, 6, none⟩ (u e2)).setCell ⟨w.heap.size, 7, none⟩ (.pointer q2) = WS := ⟨_, rfl⟩
 rw [hWS] at H1 H2 HA HX HG ⊢
 clear hWS
 refine (HC1.out _ _ H1.out HA.out).mono ?_
 rintro e W3 ⟨rfl, hb⟩
 obtain ⟨g0, g1, g2, g3⟩ := HG.out
 (have hh := cq (b := w.heap.size + 1) hb g0 g1 g2 g3; clear g0 g1 g2 g3; obtain ⟨g0, g1, g2, g3⟩ := hh)
 have hB := cj.below HX.out hb (Nat.le_refl _)
 (obtain ⟨c0, c1, c2, c3, c4, c5, c6, c7⟩ := hB.cells)
 have H2 := Lib.hid (H2.out.below hb (Nat.le_refl _))
 have HA := Lib.hid (cf HA.out hb)
 clear hb hB HX HG H1 HC1
 cases r1
 · have hr1 : ¬ m1 ≤ 0 := by simpa using hn1
   have hrd : decide (m1 ≤ 0) = false := hn1
   go_wp2_with fail
   go_ret
   exact ⟨rfl, HA.out⟩
 · have hr1 : m1 ≤ 0 := by simpa using hn1
   go_wp2_with fail
   refine (HC2.out _ _ H2.out HA.out).mono ?_
   rintro e W4 ⟨rfl, hb⟩
   have HA := Lib.hid (cf HA.out hb)
   clear hb HC2 H2
   cases r2
   · have hr2 : ¬ m2 ≤ 0 := by simpa using hn2
     go_wp2_with fail
     go_ret
     exact ⟨rfl, HA.out⟩
   · have hr2 : m2 ≤ 0 := by simpa using hn2
     go_wp2_with fail
     go_ret
     exact ⟨rfl, HA.out⟩
open Go Go.RowKit Go.Proofs Lim
def OpAt (w : World) (g : Nat) (v1 v2 : Value) (t : Rat) : Prop := ∀ W, Below w.heap.size w W → Calls Tryz.prog g #[v1, v2] W (cX W t)
set_option maxHeartbeats 2000000 in
theorem with_any (g : Nat) (eg : ∀ args w, (callFunc g args).run Tryz.prog w = .ok (.enter g args) w) (s1 s2 s3 s4 : Bool) (a1 b1 a2 b2 a3 b3 a4 b4 : Nat) (p1 p2 p3 p4 : Option Addr) (r1 r2 r3 r4 : Rat) (k : Nat) (w : World)
 (h1 : OpAt w g (.agg #[.bool s1, u a1, u b1, .pointer p1]) (.agg #[.bool s3, u a3, u b3, .pointer p3]) r1) (h2 : OpAt w g (.agg #[.bool s1, u a1, u b1, .pointer p1]) (.agg #[.bool s4, u a4, u b4, .pointer p4]) r2)
 (h3 : OpAt w g (.agg #[.bool s2, u a2, u b2, .pointer p2]) (.agg #[.bool s3, u a3, u b3, .pointer p3]) r3) (h4 : OpAt w g (.agg #[.bool s2, u a2, u b2, .pointer p2]) (.agg #[.bool s4, u a4, u b4, .pointer p4]) r4)
 (z1 : cF r1 k) (z2 : cF r2 k) (z3 : cF r3 k) (z4 : cF r4 k) (hk : (k : Int) ≤ 1073741824) :
 Calls Tryz.prog 102 #[.agg #[.bool s1, u a1, u b1, .pointer p1, .bool s2, u a2, u b2, .pointer p2], .agg #[.bool s3, u a3, u b3, .pointer p3, .bool s4, u a4, u b4, .pointer p4], .func (.func g) #[] #[]] w
  (SpNew w (cJ r1 [r2, r3, r4]) (cC r1 [r2, r3, r4])) := by
 have HA := Lib.hid (fun v sl W (hv : cR W v r1) (hs : QSl W sl [r2, r3, r4]) => around_any v sl r1 [r2, r3, r4] k W hv hs z1 (by intro x hx; simp at hx; rcases hx with rfl | rfl | rfl <;> assumption) hk (by simp))
 unfold OpAt at h1 h2 h3 h4
 have H1 := Lib.hid h1
 have H2 := Lib.hid h2
 have H3 := Lib.hid h3
 have H4 := Lib.hid h4
 clear h1 h2 h3 h4 z1 z2 z3 z4 hk
 go_enter Tryz.func102, Tryz.ntmps102
 go_wp2_with fail
 obtain ⟨W0, hW0, hb0, hX, hY, hz, hs⟩ := box88z w (.bool s1) (u a1) (u b1) (.pointer p1) (.bool s2) (u a2) (u b2) (.pointer p2) (.bool s3) (u a3) (u b3) (.pointer p3) (.bool s4) (u a4) (u b4) (.pointer p4)
 rw [hW0]
 have HW0 := Lib.hid hb0
 have HZ := Lib.hid hz
 have HX := Lib.hid hX
 have HY := Lib.hid hY
 have hb0 := Below.refl W0.heap.size W0
 have n1 : ¬ w.heap.size = w.heap.size + 1 + 1 := by omega
 have n2 : ¬ w.heap.size + 1 + 1 = w.heap.size := by omega
 have n3 : ¬ w.heap.size + 1 = w.heap.size + 1 + 1 := by omega
 have n4 : ¬ w.heap.size + 1 + 1 = w.heap.size + 1 := by omega
 (obtain ⟨c0, c1, c2, c3, c4, c5, c6, c7⟩ := hX.cells)
 (obtain ⟨d0, d1, d2, d3, d4, d5, d6, d7⟩ := hY.cells)
 clear hX hY hz hs hW0
 go_region_held3 (fun w' => (w'.cell? ⟨w.heap.size, 0, none⟩ = some (.bool s1) ∧ w'.cell? ⟨w.heap.size, 1, none⟩ = some (u a1) ∧ w'.cell? ⟨w.heap.size, 2, none⟩ = some (u b1) ∧ w'.cell? ⟨w.heap.size, 3, none⟩ = some (.pointer p1) ∧ w'.cell? ⟨w.heap.size, 4, none⟩ = some (.bool s2) ∧ w'.cell? ⟨w.heap.size, 5, none⟩ = some (u a2) ∧ w'.cell? ⟨w.heap.size, 6, none⟩ = some (u b2) ∧ w'.cell? ⟨w.heap.size, 7, none⟩ = some (.pointer p2)) ∧ (w'.cell? ⟨w.heap.size + 1, 0, none⟩ = some (.bool s3) ∧ w'.cell? ⟨w.heap.size + 1, 1, none⟩ = some (u a3) ∧ w'.cell? ⟨w.heap.size + 1, 2, none⟩ = some (u b3) ∧ w'.cell? ⟨w.heap.size + 1, 3, none⟩ = some (.pointer p3) ∧ w'.cell? ⟨w.heap.size + 1, 4, none⟩ = some (.bool s4) ∧ w'.cell? ⟨w.heap.size + 1, 5, none⟩ = some (u a4) ∧ w'.cell? ⟨w.heap.size + 1, 6, none⟩ = some (u b4) ∧ w'.cell? ⟨w.heap.size + 1, 7, none⟩ = some (.pointer p4))) (go_keep) (first | ((with_reducible refine (H1.out _ HW0.out.drew).mono ?_); rintro e W1 ⟨v1, rfl, hv1, hb⟩; obtain ⟨x1, y1, y1', q1, rfl⟩ := hv1.form; have hb0 : Below W0.heap.size W0 W1 := (by first | exact cI hb0 hb | exact cf hb0 hb); clear hb; clear c0 c1 c2 c3 c4 c5 c6 c7 d0 d1 d2 d3 d4 d5 d6 d7; have hX := cj.below HX.out hb0 (Nat.le_refl _); have hY := cj.below HY.out hb0 (Nat.le_refl _); (obtain ⟨c0, c1, c2, c3, c4, c5, c6, c7⟩ := hX.cells); (obtain ⟨d0, d1, d2, d3, d4, d5, d6, d7⟩ := hY.cells); clear hX hY) | ((with_reducible refine (H2.out _ (cf HW0.out hb0)).mono ?_); rintro e W2 ⟨v2, rfl, hv2, hb⟩; obtain ⟨x2, y2, y2', q2, rfl⟩ := hv2.form; have hv1 := hv1.below hb (Nat.le_refl _); have hb0 : Below W0.heap.size W0 W2 := (by first | exact cI hb0 hb | exact cf hb0 hb); clear hb; clear c0 c1 c2 c3 c4 c5 c6 c7 d0 d1 d2 d3 d4 d5 d6 d7; have hX := cj.below HX.out hb0 (Nat.le_refl _); have hY := cj.below HY.out hb0 (Nat.le_refl _); (obtain ⟨c0, c1, c2, c3, c4, c5, c6, c7⟩ := hX.cells); (obtain ⟨d0, d1, d2, d3, d4, d5, d6, d7⟩ := hY.cells); clear hX hY) | ((with_reducible refine (H3.out _ (cf HW0.out hb0)).mono ?_); rintro e W3 ⟨v3, rfl, hv3, hb⟩; obtain ⟨x3, y3, y3', q3, rfl⟩ := hv3.form; have hv1 := hv1.below hb (Nat.le_refl _); have hv2 := hv2.below hb (Nat.le_refl _); have hb0 : Below W0.heap.size W0 W3 := (by first | exact cI hb0 hb | exact cf hb0 hb); clear hb; clear c0 c1 c2 c3 c4 c5 c6 c7 d0 d1 d2 d3 d4 d5 d6 d7; have hX := cj.below HX.out hb0 (Nat.le_refl _); have hY := cj.below HY.out hb0 (Nat.le_refl _); (obtain ⟨c0, c1, c2, c3, c4, c5, c6, c7⟩ := hX.cells); (obtain ⟨d0, d1, d2, d3, d4, d5, d6, d7⟩ := hY.cells); clear hX hY) | ((with_reducible refine (H4.out _ (cf HW0.out hb0)).mono ?_); rintro e W4 ⟨v4, rfl, hv4, hb⟩; obtain ⟨x4, y4, y4', q4, rfl⟩ := hv4.form; have hv1 := hv1.below hb (Nat.le_refl _); have hv2 := hv2.below hb (Nat.le_refl _); have hv3 := hv3.below hb (Nat.le_refl _); have hb0 : Below W0.heap.size W0 W4 := (by first | exact cI hb0 hb | exact cf hb0 hb); clear hb; clear c0 c1 c2 c3 c4 c5 c6 c7 d0 d1 d2 d3 d4 d5 d6 d7; have hX := cj.below HX.out hb0 (Nat.le_refl _); have hY := cj.below HY.out hb0 (Nat.le_refl _); (obtain ⟨c0, c1, c2, c3, c4, c5, c6, c7⟩ := hX.cells); (obtain ⟨d0, d1, d2, d3, d4, d5, d6, d7⟩ := hY.cells); clear hX hY) | ((with_reducible refine (HA.out _ _ _ (hv1.below (cu W4 _) (Nat.le_refl _)) (qsl3 W4 x2 x3 x4 y2 y2' y3 y3' y4 y4' q2 q3 q4 r2 r3 r4 hv2 hv3 hv4)).mono ?_); rintro e W9 ⟨v, rfl, hv, hb⟩; have hb9 := cf hb0 (cf (cu W4 _) hb); clear hb; clear c0 c1 c2 c3 c4 c5 c6 c7 d0 d1 d2 d3 d4 d5 d6 d7; have hX := cj.below HX.out hb9 (Nat.le_refl _); have hY := cj.below HY.out hb9 (Nat.le_refl _); (obtain ⟨c0, c1, c2, c3, c4, c5, c6, c7⟩ := hX.cells); (obtain ⟨d0, d1, d2, d3, d4, d5, d6, d7⟩ := hY.cells); clear hX hY; have hv' := hv; obtain ⟨t1, d1', e1, q1', t2, d2', e2, q2', rfl, _, _⟩ := hv'; have hz9 := cj.below HZ.out hb9 (Nat.le_refl _); (obtain ⟨z0, z1, z2, z3, z4, z5, z6, z7⟩ := cj.cells hz9; have zf0 := cj.frozen hz9 0; have zf1 := cj.frozen hz9 1; have zf2 := cj.frozen hz9 2; have zf3 := cj.frozen hz9 3; have zf4 := cj.frozen hz9 4; have zf5 := cj.frozen hz9 5; have zf6 := cj.frozen hz9 6; have zf7 := cj.frozen hz9 7)))
 have hfin := SpNew.stored (cj.nbox hz9) hv (cf HW0.out hb9) (show w.heap.size ≤ w.heap.size + 1 + 1 by omega) (.bool t1) (u d1') (u e1) (.pointer q1') (.bool t2) (u d2') (u e2) (.pointer q2')
 have HFin := Lib.hid hfin
 clear hfin hv hz9 hb9 hv1 hv2 hv3 hv4 hb0 c0 c1 c2 c3 c4 c5 c6 c7 d0 d1 d2 d3 d4 d5 d6 d7
 go_wp2_with fail
 refine bodyPost_ret (v := .agg #[.bool t1, u d1', u e1, .pointer q1', .bool t2, u d2', u e2, .pointer q2']) (by simp [results, Tryz.results102, go_sem, z0, z1, z2, z3, z4, z5, z6, z7]) rfl ?_
 exact HFin.out
def wLow (f : Rat → Rat → Rat) (a b c d : Rat) : Rat := cJ (f a c) [f a d, f b c, f b d]
def wHigh (f : Rat → Rat → Rat) (a b c d : Rat) : Rat := cC (f a c) [f a d, f b c, f b d]
theorem with_op (g : Nat) (eg : ∀ args w, (callFunc g args).run Tryz.prog w = .ok (.enter g args) w) (f : Rat → Rat → Rat) (v1 v2 : Value) (a b c d : Rat) (k j : Nat) (w : World)
 (hop : ∀ x y r s W, cR W x r → cR W y s → (r = a ∨ r = b) → (s = c ∨ s = d) → cF r k → cF s k → Below w.heap.size w W → Calls Tryz.prog g #[x, y] W (cX W (f r s)))
 (hf : ∀ r s, (r = a ∨ r = b) → (s = c ∨ s = d) → cF r k → cF s k → cF (f r s) j) (h1 : IsS w v1 a b) (h2 : IsS w v2 c d) (za : cF a k) (zb : cF b k) (zc : cF c k) (zd : cF d k) (hj : (j : Int) ≤ 1073741824) :
 Calls Tryz.prog 102 #[v1, v2, .func (.func g) #[] #[]] w (SpNew w (wLow f a b c d) (wHigh f a b c d)) := by
 obtain ⟨s1, a1, b1, p1, s2, a2, b2, p2, rfl, i1, i2⟩ := h1
 obtain ⟨s3, a3, b3, p3, s4, a4, b4, p4, rfl, i3, i4⟩ := h2
 exact with_any g eg s1 s2 s3 s4 a1 b1 a2 b2 a3 b3 a4 b4 p1 p2 p3 p4 (f a c) (f a d) (f b c) (f b d) j w
  (fun W hW => hop _ _ a c W (i1.below hW (Nat.le_refl _)) (i3.below hW (Nat.le_refl _)) (.inl rfl) (.inl rfl) za zc hW) (fun W hW => hop _ _ a d W (i1.below hW (Nat.le_refl _)) (i4.below hW (Nat.le_refl _)) (.inl rfl) (.inr rfl) za zd hW)
  (fun W hW => hop _ _ b c W (i2.below hW (Nat.le_refl _)) (i3.below hW (Nat.le_refl _)) (.inr rfl) (.inl rfl) zb zc hW) (fun W hW => hop _ _ b d W (i2.below hW (Nat.le_refl _)) (i4.below hW (Nat.le_refl _)) (.inr rfl) (.inr rfl) zb zd hW)
  (hf _ _ (.inl rfl) (.inl rfl) za zc) (hf _ _ (.inl rfl) (.inr rfl) za zd) (hf _ _ (.inr rfl) (.inl rfl) zb zc) (hf _ _ (.inr rfl) (.inr rfl) zb zd) hj
theorem sptimes_any (v1 v2 : Value) (a b c d : Rat) (k : Nat) (w : World) (h1 : IsS w v1 a b) (h2 : IsS w v2 c d) (za : cF a k) (zb : cF b k) (zc : cF c k) (zd : cF d k) (hk : ((k + k + 1 : Nat) : Int) ≤ 1073741824) (hG : Gr w) :
 Calls Tryz.prog 51 #[v1, v2] w (SpNew w (wLow (fun r s => r * s) a b c d) (wHigh (fun r s => r * s) a b c d)) := by
 have HW := Lib.hid (fun W (hW : Below w.heap.size w W) => with_op 29 (enters_of Tryz.func29 (by kernel_rfl) rfl) (fun r s => r * s) v1 v2 a b c d k (k + k) W
  (fun x y r s W' hx hy _ _ z1 z2 hW' => times_q x y r s k W' hx hy z1 z2 (by omega) ((hG.below hW hG.size).below hW' (Nat.le_trans hG.size hW.size))) (fun r s _ _ z1 z2 => z1.mul z2) (h1.below hW (Nat.le_refl _)) (h2.below hW (Nat.le_refl _)) za zb zc zd (by omega))
 obtain ⟨s1, a1, b1, p1, s2, a2, b2, p2, rfl, _, _⟩ := h1
 obtain ⟨s3, a3, b3, p3, s4, a4, b4, p4, rfl, _, _⟩ := h2
 clear za zb zc zd hk hG
 generalize wLow (fun r s => r * s) a b c d = lo at *
 generalize wHigh (fun r s => r * s) a b c d = hi at *
 go_enter Tryz.func51, Tryz.ntmps51
 go_wp2_with fail
 obtain ⟨W0, hW0, hb0, _, _, hz, hs⟩ := box88z w (.bool s1) (u a1) (u b1) (.pointer p1) (.bool s2) (u a2) (u b2) (.pointer p2) (.bool s3) (u a3) (u b3) (.pointer p3) (.bool s4) (u a4) (u b4) (.pointer p4)
 rw [hW0]
 refine (HW.out _ hb0).mono ?_
 rintro e W9 ⟨v, rfl, hv, hb⟩
 have hz9 : ZBox8 W9 (w.heap.size + 1 + 1) := cj.below hz hb (Nat.le_refl _)
 have HB9 := Lib.hid (cf hb0 hb)
 clear hb0 hz hs hW0 HW
 (have hv' := hv; obtain ⟨t1, d1, e1, q1, t2, d2, e2, q2, rfl, _, _⟩ := hv'; have HFin := Lib.hid (SpNew.stored (cj.nbox hz9) hv HB9.out (by omega) (.bool t1) (u d1) (u e1) (.pointer q1) (.bool t2) (u d2) (u e2) (.pointer q2)); (obtain ⟨z0, z1, z2, z3, z4, z5, z6, z7⟩ := cj.cells hz9; have zf0 := cj.frozen hz9 0; have zf1 := cj.frozen hz9 1; have zf2 := cj.frozen hz9 2; have zf3 := cj.frozen hz9 3; have zf4 := cj.frozen hz9 4; have zf5 := cj.frozen hz9 5; have zf6 := cj.frozen hz9 6; have zf7 := cj.frozen hz9 7); clear hv hz9; clear hb; go_wp2_with fail; refine bodyPost_ret (v := .agg #[.bool t1, u d1, u e1, .pointer q1, .bool t2, u d2, u e2, .pointer q2]) (by simp [results, Tryz.results51, go_sem, z0, z1, z2, z3, z4, z5, z6, z7]) rfl ?_; exact HFin.out)
open Go Go.RowKit Go.Proofs Lim
def FnAt (w : World) (g : Nat) (pre cap : Array Value) (v : Value) (t : Rat) : Prop := ∀ W, Below w.heap.size w W → Calls Tryz.prog g (pre.push v ++ cap) W (cX W t)
theorem under_none (g : Nat) (pre cap : Array Value) (eg : ∀ args w, (callFunc g args).run Tryz.prog w = .ok (.enter g args) w) (s1 s2 : Bool) (a1 b1 a2 b2 : Nat) (p1 p2 : Option Addr) (r1 r2 : Rat) (c : Nat) (k : Nat) (w : World)
 (h1 : FnAt w g pre cap (.agg #[.bool s1, u a1, u b1, .pointer p1]) r1) (h2 : FnAt w g pre cap (.agg #[.bool s2, u a2, u b2, .pointer p2]) r2)
 (z1 : cF r1 k) (z2 : cF r2 k) (hk : (k : Int) ≤ 1073741824) :
 Calls Tryz.prog 109 #[.agg #[.bool s1, u a1, u b1, .pointer p1, .bool s2, u a2, u b2, .pointer p2], .func (.func g) pre cap, .slice none 0 c] w
  (SpNew w (cJ r1 [r2]) (cC r1 [r2])) := by
 have HA := Lib.hid (fun v sl W (hv : cR W v r1) (hs : QSl W sl [r2]) => around_any v sl r1 [r2] k W hv hs z1 (siz1 z2) hk (by simp))
 unfold FnAt at h1 h2
 have H1 := Lib.hid h1
 have H2 := Lib.hid h2
 clear h1 h2 z1 z2 hk
 go_enter Tryz.func109, Tryz.ntmps109
 go_wp2_with fail
 obtain ⟨W0, hW0, hb0, hX, hz, hs⟩ := box8z w (.bool s1) (u a1) (u b1) (.pointer p1) (.bool s2) (u a2) (u b2) (.pointer p2)
 rw [hW0]
 have HX := Lib.hid hX
 have HZ := Lib.hid hz
 refine (H2.out _ hb0).mono ?_
 rintro e W1 ⟨v2, rfl, hv2, hb⟩
 obtain ⟨x2, y2, y2', q2, rfl⟩ := hv2.form
 have HA1 := Lib.hid (cf hb0 hb)
 have HX := Lib.hid (cj.below HX.out hb (Nat.le_refl _))
 have HZ := Lib.hid (cj.below HZ.out hb (Nat.le_refl _))
 have HV2 := Lib.hid hv2
 have l1 : w.heap.size < W1.heap.size := HX.out.lt
 (obtain ⟨c0, c1, c2, c3, c4, c5, c6, c7⟩ := HX.out.cells)
 clear hX hz hs hW0 hb hb0 hv2
 go_wp2_with fail
 refine wp_loop_rounds 1 ?_
 rw [rounds_succ]
 go_wp2_with fail
 have hbS := cu W1 (.cells #[.bool x2, u y2, u y2', .pointer q2] 26)
 have HSl := Lib.hid (qsl1 W1 x2 y2 y2' q2 r2 HV2.out)
 have HX := Lib.hid (cj.below HX.out hbS (Nat.le_refl _))
 have HZ := Lib.hid (cj.below HZ.out hbS (Nat.le_refl _))
 have HA2 := Lib.hid (cf HA1.out hbS)
 clear hbS c0 c1 c2 c3 c4 c5 c6 c7 l1 HV2 HA1
 obtain ⟨W2, hW2⟩ : ∃ W2, W1.alloc (.cells #[.bool x2, u y2, u y2', .pointer q2] 26) = W2 := ⟨_, rfl⟩
 rw [hW2] at HSl HX HZ HA2 ⊢
 clear hW2
 generalize W1.heap.size = bs at *
 refine (H1.out _ HA2.out).mono ?_
 rintro e W3 ⟨v1, rfl, hv1, hb⟩
 obtain ⟨x1, y1, y1', q1, rfl⟩ := hv1.form
 have HSl := Lib.hid (HSl.out.below hb (Nat.le_refl _))
 have HZ := Lib.hid (cj.below HZ.out hb (Nat.le_refl _))
 have HA3 := Lib.hid (cf HA2.out hb)
 have HV1 := Lib.hid hv1
 clear hb hv1 HX HA2 H1 H2
 go_wp2_with fail
 refine (HA.out _ _ _ HV1.out HSl.out).mono ?_
 rintro e W9 ⟨v, rfl, hv, hb⟩
 have hz9 : ZBox8 W9 (w.heap.size + 1) := cj.below HZ.out hb (Nat.le_refl _)
 have HB9 := Lib.hid (cf HA3.out hb)
 clear HZ HA3 HA HSl HV1
 (have hv' := hv; obtain ⟨t1, d1, e1, q1, t2, d2, e2, q2, rfl, _, _⟩ := hv'; have HFin := Lib.hid (SpNew.stored (cj.nbox hz9) hv HB9.out (by omega) (.bool t1) (u d1) (u e1) (.pointer q1) (.bool t2) (u d2) (u e2) (.pointer q2)); (obtain ⟨z0, z1, z2, z3, z4, z5, z6, z7⟩ := cj.cells hz9; have zf0 := cj.frozen hz9 0; have zf1 := cj.frozen hz9 1; have zf2 := cj.frozen hz9 2; have zf3 := cj.frozen hz9 3; have zf4 := cj.frozen hz9 4; have zf5 := cj.frozen hz9 5; have zf6 := cj.frozen hz9 6; have zf7 := cj.frozen hz9 7); clear hv hz9; clear hb; go_wp2_with fail; refine bodyPost_ret (v := .agg #[.bool t1, u d1, u e1, .pointer q1, .bool t2, u d2, u e2, .pointer q2]) (by simp [results, Tryz.results109, go_sem, z0, z1, z2, z3, z4, z5, z6, z7]) rfl ?_; exact HFin.out)
open Go Go.RowKit Go.Proofs Lim
theorem co.grown {W W' : World} {row : Option Nat} {v : Value} {n : Nat} (hg : W.grownBy W' row) (hR : ∀ r, row = some r → NBox W r) (h : co W v n) : co W' v n := by
 obtain ⟨xs, ⟨⟨ao, c, rfl, h1, h2, hr⟩, ok, typ⟩, htr, hv⟩ := h
 have key : ∀ a : Addr, ao = some a → 0 < xs.length → W'.heap[a.block]? = W.heap[a.block]? := by
  intro a ha hn
  subst ha
  obtain ⟨cs', fr', hc⟩ := typ a _ _ rfl hn
  refine hg.block a.block (Array.getElem?_eq_some_iff.1 hc).1 ?_
  intro e
  obtain ⟨cs, t, fr, hb, ht, _⟩ := hR a.block e.symm
  rw [hb] at hc
  injection hc with hc
  injection hc with _ hc
  exact ht hc
 refine ⟨xs, ⟨⟨ao, c, rfl, h1, h2, fun hn => ?_⟩, ok, fun a n' c' e hn => ?_⟩, htr, hv⟩
 · obtain ⟨b, off, rfl, row'⟩ := hr hn
   refine ⟨b, off, rfl, fun i hi => ?_⟩
   exact (World.cell?_of_block (w := W) (a := ⟨b, off + i, none⟩) (key ⟨b, off, none⟩ rfl hn)).trans (row' i hi)
 · injection e with e1 e2 e3
   subst e1 e2 e3
   obtain ⟨cs', fr', hc⟩ := typ a _ _ rfl hn
   exact ⟨cs', fr', (key a rfl hn).trans hc⟩
theorem cR.grown {W W' : World} {row : Option Nat} {v : Value} {r : Rat} (hg : W.grownBy W' row) (hR : ∀ r, row = some r → NBox W r) (h : cR W v r) : cR W' v r := by
 unfold cR at *
 cases h with
 | low l hv hd hn hdB => exact .low l hv hd hn hdB
 | wide b x y hv hx hy h1 h2 hB h0 hd =>
  have hb : W'.heap[b]? = W.heap[b]? := by
   refine hg.block b (World.block_lt_of_cell? W _ hx) ?_
   intro e
   obtain ⟨cs, t, fr, hb, _, hz⟩ := hR b e.symm
   obtain ⟨_, _, _, rfl, _⟩ := h1.form
   rw [World.cell?, hb] at hx
   obtain ⟨s, e⟩ := hz _ hx
   cases e
  exact .wide b x y hv ((World.cell?_of_block (w := W) (a := ⟨b, 0, none⟩) hb).trans hx) ((World.cell?_of_block (w := W) (a := ⟨b, 1, none⟩) hb).trans hy) (h1.grown hg hR) (h2.grown hg hR) hB h0 hd
theorem info_q : (Tryz.prog.info? 26).map (fun i => (i.zero, i.size, i.bytes)) = some (some (.agg #[.bool false, .int .u64 0, .int .u64 0, .pointer none]), 4, 32) := by kernel_rfl
theorem qsl_owned2 {w w1 : World} {v : Value} {s1 s2 : Bool} {a1 b1 a2 b2 : Nat} {p1 p2 : Option Addr} {r1 r2 : Rat}
 (h : w1.ownsRow w.heap.size 26 4 v 2 [.bool s1, u a1, u b1, .pointer p1, .bool s2, u a2, u b2, .pointer p2])
 (h1 : cR w1 (.agg #[.bool s1, u a1, u b1, .pointer p1]) r1) (h2 : cR w1 (.agg #[.bool s2, u a2, u b2, .pointer p2]) r2) : QSl w1 v [r1, r2] := by
 obtain ⟨_, ⟨_, h0⟩ | ⟨g, cap, cur, rfl, _, hg, hn, hm, hs, ht⟩⟩ := h
 · cases h0
 · unfold maxLen at hm
   refine ⟨_, cap, rfl, hn, by omega, fun _ => ⟨g, 0, rfl, fun i hi => ?_⟩⟩
   have hc : ∀ j, j < 8 → w1.cell? ⟨g, j, none⟩ = ([.bool s1, u a1, u b1, .pointer p1, .bool s2, u a2, u b2, .pointer p2] : List Value)[j]? := by
    intro j hj
    rw [← ht, List.getElem?_take, if_pos (by omega)]
    simp [World.cell?, hg]
   have hi : i < 2 := hi
   rcases i with _ | _ | i
   · exact ⟨_, ⟨s1, a1, b1, p1, rfl, hc 0 (by omega), hc 1 (by omega), hc 2 (by omega), hc 3 (by omega)⟩, h1⟩
   · exact ⟨_, ⟨s2, a2, b2, p2, rfl, hc 4 (by omega), hc 5 (by omega), hc 6 (by omega), hc 7 (by omega)⟩, h2⟩
   · omega
theorem box2b (w : World) (a0 a1 a2 a3 b0 b1 b2 b3 : Value) : ∃ W, (w.alloc (.cells #[a0, a1, a2, a3] 26)).alloc (.cells #[b0, b1, b2, b3] 26) = W ∧ Below w.heap.size w W ∧ Box W w.heap.size a0 a1 a2 a3 ∧ Box W (w.heap.size + 1) b0 b1 b2 b3 ∧ W.heap.size = w.heap.size + 1 + 1 := by
 have hb1 := cu w (.cells #[a0, a1, a2, a3] 26)
 have h1 : Box _ w.heap.size a0 a1 a2 a3 := heap_alloc_new w (.cells #[a0, a1, a2, a3] 26)
 have hs1 : (w.alloc (.cells #[a0, a1, a2, a3] 26)).heap.size = w.heap.size + 1 := World.size_alloc ..
 generalize w.alloc (.cells #[a0, a1, a2, a3] 26) = W1 at *
 have hb2 := cu W1 (.cells #[b0, b1, b2, b3] 26)
 have h2 : Box _ W1.heap.size b0 b1 b2 b3 := heap_alloc_new W1 (.cells #[b0, b1, b2, b3] 26)
 rw [hs1] at h2
 exact ⟨_, rfl, cf hb1 hb2, h1.below hb2 (Nat.le_refl _), h2, by rw [World.size_alloc, hs1]⟩
theorem Box.owned {W : World} {b base : Nat} {c0 c1 c2 c3 : Value} (h : Box W b c0 c1 c2 c3) (hb : base ≤ b) : W.ownsRow base 26 4 (.slice (some ⟨b, 0, none⟩) 1 1) 1 [c0, c1, c2, c3] :=
 ⟨rfl, .inr ⟨b, 1, _, rfl, hb, h, Nat.le_refl _, by decide, rfl, rfl⟩⟩
def cB (has : Bool) (r2 r3 : Rat) : List Rat := if has then [r2, r3] else [r2]
set_option maxHeartbeats 1000000 in
theorem under_one (g : Nat) (pre cap : Array Value) (eg : ∀ args w, (callFunc g args).run Tryz.prog w = .ok (.enter g args) w) (s1 s2 : Bool) (a1 b1 a2 b2 : Nat) (p1 p2 : Option Addr) (lo hi t r1 r2 r3 : Rat) (k : Nat) (w : World)
 (bt off ct : Nat) (s3 : Bool) (a3 b3 : Nat) (p3 : Option Addr) (i1 : cR w (.agg #[.bool s1, u a1, u b1, .pointer p1]) lo) (i2 : cR w (.agg #[.bool s2, u a2, u b2, .pointer p2]) hi) (i3 : cR w (.agg #[.bool s3, u a3, u b3, .pointer p3]) t)
 (k0 : w.cell? ⟨bt, off, none⟩ = some (.bool s3)) (k1 : w.cell? ⟨bt, off + 1, none⟩ = some (u a3)) (k2 : w.cell? ⟨bt, off + 2, none⟩ = some (u b3)) (k3 : w.cell? ⟨bt, off + 3, none⟩ = some (.pointer p3))
 (h1 : FnAt w g pre cap (.agg #[.bool s1, u a1, u b1, .pointer p1]) r1) (h2 : FnAt w g pre cap (.agg #[.bool s2, u a2, u b2, .pointer p2]) r2) (h3 : jv lo hi t = true → FnAt w g pre cap (.agg #[.bool s3, u a3, u b3, .pointer p3]) r3)
 (zl : cF lo k) (zh : cF hi k) (zt : cF t k) (z1 : cF r1 k) (z2 : cF r2 k) (z3 : jv lo hi t = true → cF r3 k) (hk : (k : Int) ≤ 1073741824) :
 Calls Tryz.prog 109 #[.agg #[.bool s1, u a1, u b1, .pointer p1, .bool s2, u a2, u b2, .pointer p2], .func (.func g) pre cap, .slice (some ⟨bt, off, none⟩) 1 ct] w
  (SpNew w (cJ r1 (cB (jv lo hi t) r2 r3)) (cC r1 (cB (jv lo hi t) r2 r3))) := by
 have HHas := Lib.hid (fun W (hW : Below w.heap.size w W) => has_any (.agg #[.bool s1, u a1, u b1, .pointer p1, .bool s2, u a2, u b2, .pointer p2]) (.agg #[.bool s3, u a3, u b3, .pointer p3]) lo hi t k W
  ⟨s1, a1, b1, p1, s2, a2, b2, p2, rfl, i1.below hW (Nat.le_refl _), i2.below hW (Nat.le_refl _)⟩ (i3.below hW (Nat.le_refl _)) zl zh zt hk)
 have HA := Lib.hid (fun v sl W (hv : cR W v r1) (hs : QSl W sl (cB (jv lo hi t) r2 r3)) => around_any v sl r1 (cB (jv lo hi t) r2 r3) k W hv hs z1 (by
  unfold cB
  split
  · rename_i hh
    intro x hx
    simp at hx
    rcases hx with rfl | rfl
    · exact z2
    · exact z3 hh
  · exact siz1 z2) hk (by unfold cB; split <;> simp))
 unfold FnAt at h1 h2 h3
 have H1 := Lib.hid h1
 have H2 := Lib.hid h2
 have H3 := Lib.hid h3
 have lt0 : bt < w.heap.size := World.block_lt_of_cell? w _ k0
 clear h1 h2 h3 z1 z2 z3 zl zh zt i1 i2 i3 hk
 generalize jv lo hi t = hb at *
 go_enter Tryz.func109, Tryz.ntmps109
 go_wp2_with fail
 obtain ⟨W0, hW0, hb0, hX, hz, hs⟩ := box8z w (.bool s1) (u a1) (u b1) (.pointer p1) (.bool s2) (u a2) (u b2) (.pointer p2)
 rw [hW0]
 have HX := Lib.hid hX
 have HZ := Lib.hid hz
 refine (H2.out _ hb0).mono ?_
 rintro e W1 ⟨v2, rfl, hv2, hbb⟩
 obtain ⟨x2, y2, y2', q2, rfl⟩ := hv2.form
 have hA1 := cf hb0 hbb
 have HX := Lib.hid (cj.below HX.out hbb (Nat.le_refl _))
 have HZ := Lib.hid (cj.below HZ.out hbb (Nat.le_refl _))
 have HV2 := Lib.hid hv2
 have l1 : w.heap.size < W1.heap.size := HX.out.lt
 have l2 : bt < W1.heap.size := by omega
 have k0 := (hA1.cell (p := ⟨bt, off, none⟩) lt0).trans k0
 have k1 := (hA1.cell (p := ⟨bt, off + 1, none⟩) lt0).trans k1
 have k2 := (hA1.cell (p := ⟨bt, off + 2, none⟩) lt0).trans k2
 have k3 := (hA1.cell (p := ⟨bt, off + 3, none⟩) lt0).trans k3
 have HA1 := Lib.hid hA1
 (obtain ⟨c0, c1, c2, c3, c4, c5, c6, c7⟩ := HX.out.cells)
 clear hX hz hs hW0 hbb hb0 hv2 hA1
 go_wp2_with fail
 refine wp_loop_rounds 2 ?_
 rw [rounds_succ]
 go_wp2_with fail
 have HZ1 := HZ
 obtain ⟨W2, hW2, hb2, hS, hXb, hs2⟩ := box2b W1 (.bool x2) (u y2) (u y2') (.pointer q2) (.bool s3) (u a3) (u b3) (.pointer p3)
 rw [hW2]
 have HX := Lib.hid (cj.below HX.out hb2 (Nat.le_refl _))
 have HZ := Lib.hid (cj.below HZ.out hb2 (Nat.le_refl _))
 have HV2 := Lib.hid (HV2.out.below hb2 (Nat.le_refl _))
 have HA2 := Lib.hid (cf HA1.out hb2)
 have HS := Lib.hid hS
 have HXb := Lib.hid hXb
 have hbs : w.heap.size + 1 < W1.heap.size := cj.lt HZ1.out
 have HBs := Lib.hid hbs
 clear hW2 hb2 hS hXb hs2 c0 c1 c2 c3 c4 c5 c6 c7 k0 k1 k2 k3 l1 l2 HA1 hbs HZ1
 generalize W1.heap.size = bs at *
 refine (HHas.out _ HA2.out).mono ?_
 rintro e W3 ⟨rfl, hbb⟩
 have HX := Lib.hid (cj.below HX.out hbb (Nat.le_refl _))
 have HZ := Lib.hid (cj.below HZ.out hbb (Nat.le_refl _))
 have HV2 := Lib.hid (HV2.out.below hbb (Nat.le_refl _))
 have HA3 := Lib.hid (cf HA2.out hbb)
 have HS := Lib.hid (HS.out.below hbb (Nat.le_refl _))
 have HXb := Lib.hid (HXb.out.below hbb (Nat.le_refl _))
 (obtain ⟨c0, c1, c2, c3, c4, c5, c6, c7⟩ := HX.out.cells)
 obtain ⟨g0, g1, g2, g3⟩ := HXb.out.cells
 clear hbb HA2 HHas
 cases hb
 · have HSl : Hid (QSl W3 (.slice (some ⟨bs, 0, none⟩) 1 1) (cB false r2 r3)) := by
    obtain ⟨i0, i1, i2, i3⟩ := HS.out.cells
    exact ⟨_, 1, rfl, Nat.le_refl _, by decide, fun _ => ⟨bs, 0, rfl, fun i hi => by
     have : i = 0 := by simpa [cB] using hi
     subst this
     exact ⟨_, ⟨x2, y2, y2', q2, rfl, i0, i1, i2, i3⟩, HV2.out⟩⟩⟩
   go_wp2_with fail
   rw [rounds_succ]
   go_wp2_with fail
   refine (H1.out _ HA3.out).mono ?_
   rintro e W4 ⟨v1, rfl, hv1, hbb⟩
   obtain ⟨x1, y1, y1', q1, rfl⟩ := hv1.form
   have HSl := Lib.hid (HSl.out.below hbb (Nat.le_refl _))
   have HZ := Lib.hid (cj.below HZ.out hbb (Nat.le_refl _))
   have HA4 := Lib.hid (cf HA3.out hbb)
   have HV1 := Lib.hid hv1
   clear hbb hv1 HX HA3 H1 H2 H3 c0 c1 c2 c3 c4 c5 c6 c7 g0 g1 g2 g3
   go_wp2_with fail
   refine (HA.out _ _ _ HV1.out HSl.out).mono ?_
   rintro e W9 ⟨v, rfl, hv, hb⟩
   have hz9 : ZBox8 W9 (w.heap.size + 1) := cj.below HZ.out hb (Nat.le_refl _)
   have HB9 := Lib.hid (cf HA4.out hb)
   clear HZ HA4 HA HSl HV1
   (have hv' := hv; obtain ⟨t1, d1, e1, q1, t2, d2, e2, q2, rfl, _, _⟩ := hv'; have HFin := Lib.hid (SpNew.stored (cj.nbox hz9) hv HB9.out (by omega) (.bool t1) (u d1) (u e1) (.pointer q1) (.bool t2) (u d2) (u e2) (.pointer q2)); (obtain ⟨z0, z1, z2, z3, z4, z5, z6, z7⟩ := cj.cells hz9; have zf0 := cj.frozen hz9 0; have zf1 := cj.frozen hz9 1; have zf2 := cj.frozen hz9 2; have zf3 := cj.frozen hz9 3; have zf4 := cj.frozen hz9 4; have zf5 := cj.frozen hz9 5; have zf6 := cj.frozen hz9 6; have zf7 := cj.frozen hz9 7); clear hv hz9; clear hb; go_wp2_with fail; refine bodyPost_ret (v := .agg #[.bool t1, u d1, u e1, .pointer q1, .bool t2, u d2, u e2, .pointer q2]) (by simp [results, Tryz.results109, go_sem, z0, z1, z2, z3, z4, z5, z6, z7]) rfl ?_; exact HFin.out)
 · have HT := Lib.hid (H3.out rfl)
   clear H3
   go_wp2_with fail
   refine (HT.out _ HA3.out).mono ?_
   rintro e W4 ⟨v3, rfl, hv3, hbb⟩
   obtain ⟨x3, y3, y3', q3, rfl⟩ := hv3.form
   have HX := Lib.hid (cj.below HX.out hbb (Nat.le_refl _))
   have HZ := Lib.hid (cj.below HZ.out hbb (Nat.le_refl _))
   have HV2 := Lib.hid (HV2.out.below hbb (Nat.le_refl _))
   have HA4 := Lib.hid (cf HA3.out hbb)
   have HS := Lib.hid (HS.out.below hbb (Nat.le_refl _))
   have HV3 := Lib.hid hv3
   obtain ⟨i0, hi, hz0, hz1, hz2⟩ := info_parts info_q
   have hsz : w.heap.size ≤ W4.heap.size := HA4.out.size
   have HSz := Lib.hid hsz
   clear hbb hv3 HXb HA3 HT c0 c1 c2 c3 c4 c5 c6 c7 g0 g1 g2 g3 hsz k0 k1 k2 k3
   go_wp2_with (at_builtin; refine wpList_append_own _ rfl _ _ 91 rfl w.heap.size 26 i0 _ 4 32 Tryz.underlying91 hi hz0 hz1 hz2 rfl (by decide) _ _ _ rfl ((Box.owned HS.out (by have := HBs.out; omega)).alloc _) ⟨W4.heap.size, 0, none⟩ 1 1 [.bool x3, u y3, u y3', .pointer q3] rfl ?qc1 ?qc2 ?qc3 ?qc4 ?qc5 ?qc6 ?_)
   case qc1 => rfl
   case qc2 =>
    intro j v hj
    rcases j with _ | _ | _ | _ | j
    all_goals (simp at hj; try subst hj)
    all_goals exact World.cell?_alloc_new ..
   case qc3 => intro v hv; simp at hv; rcases hv with rfl | rfl | rfl | rfl <;> rfl
   case qc4 => decide
   case qc5 => decide
   case qc6 => have := HSz.out; simp; omega
   intro v' w1 hown hgrow hnil
   have hbx := cu W4 (.cells #[.bool x3, u y3, u y3', .pointer q3] 26)
   have hNB : ∀ r, (Value.slice (some ⟨bs, 0, none⟩) 1 1).ownBlock = some r → NBox (W4.alloc (.cells #[.bool x3, u y3, u y3', .pointer q3] 26)) r := by
    intro r e
    injection e with e
    subst e
    exact Box.nbox (HS.out.below hbx (Nat.le_refl _))
   have hV2 := (HV2.out.below hbx (Nat.le_refl _)).grown hgrow hNB
   have hV3 := (HV3.out.below hbx (Nat.le_refl _)).grown hgrow hNB
   have hsl : QSl w1 v' (cB true r2 r3) := qsl_owned2 hown hV2 hV3
   have hx := (cj.below HX.out hbx (Nat.le_refl _))
   have hz := (cj.below HZ.out hbx (Nat.le_refl _))
   have hx1 : cj w1 _ _ _ _ _ _ _ _ _ := hx.of_block (hgrow.block _ hx.lt (by intro e; injection e with e; have e : _ = bs := e; have := HBs.out; omega))
   have hzz : ZBox8 w1 _ := cj.of_block hz (hgrow.block _ (cj.lt hz) (by intro e; injection e with e; have e : _ = bs := e; have := HBs.out; omega))
   have hA5 : Below w.heap.size w w1 := (cf HA4.out hbx).grown hgrow (Nat.le_trans HA4.out.size hbx.size) (by intro k' e; injection e with e; have e : bs = k' := e; have := HBs.out; omega)
   have HSl := Lib.hid hsl
   have HX := Lib.hid hx1
   have HZ := Lib.hid hzz
   have HA5 := Lib.hid hA5
   obtain ⟨ao, cp, rfl, hcp1, hcp2, _⟩ := hsl
   have e2 : (cB true r2 r3).length = 2 := rfl
   rw [e2] at HSl ⊢
   (obtain ⟨c0, c1, c2, c3, c4, c5, c6, c7⟩ := HX.out.cells)
   clear hbx hNB hV2 hV3 hx hz hx1 hzz hz1
   clear hA5 hown hgrow hnil HV2 HV3 HS HA4
   clear e2 hcp1 hcp2
   clear hz0 hz2 hi
   go_wp2_with fail
   rw [rounds_succ]
   go_wp2_with fail
   refine (H1.out _ HA5.out).mono ?_
   rintro e W6 ⟨v1, rfl, hv1, hbb⟩
   obtain ⟨x1, y1, y1', q1, rfl⟩ := hv1.form
   have HSl := Lib.hid (HSl.out.below hbb (Nat.le_refl _))
   have HZ := Lib.hid (cj.below HZ.out hbb (Nat.le_refl _))
   have HA6 := Lib.hid (cf HA5.out hbb)
   have HV1 := Lib.hid hv1
   clear hbb hv1 HX HA5 H1 H2 c0 c1 c2 c3 c4 c5 c6 c7
   go_wp2_with fail
   refine (HA.out _ _ _ HV1.out HSl.out).mono ?_
   rintro e W9 ⟨v, rfl, hv, hb⟩
   have hz9 : ZBox8 W9 (w.heap.size + 1) := cj.below HZ.out hb (Nat.le_refl _)
   have HB9 := Lib.hid (cf HA6.out hb)
   clear HZ HA6 HA HSl HV1
   (have hv' := hv; obtain ⟨t1, d1, e1, q1, t2, d2, e2, q2, rfl, _, _⟩ := hv'; have HFin := Lib.hid (SpNew.stored (cj.nbox hz9) hv HB9.out (by omega) (.bool t1) (u d1) (u e1) (.pointer q1) (.bool t2) (u d2) (u e2) (.pointer q2)); (obtain ⟨z0, z1, z2, z3, z4, z5, z6, z7⟩ := cj.cells hz9; have zf0 := cj.frozen hz9 0; have zf1 := cj.frozen hz9 1; have zf2 := cj.frozen hz9 2; have zf3 := cj.frozen hz9 3; have zf4 := cj.frozen hz9 4; have zf5 := cj.frozen hz9 5; have zf6 := cj.frozen hz9 6; have zf7 := cj.frozen hz9 7); clear hv hz9; clear hb; go_wp2_with fail; refine bodyPost_ret (v := .agg #[.bool t1, u d1, u e1, .pointer q1, .bool t2, u d2, u e2, .pointer q2]) (by simp [results, Tryz.results109, go_sem, z0, z1, z2, z3, z4, z5, z6, z7]) rfl ?_; exact HFin.out)
end Go.Proofs.YtccabfblgjcboaaGreatDoor
