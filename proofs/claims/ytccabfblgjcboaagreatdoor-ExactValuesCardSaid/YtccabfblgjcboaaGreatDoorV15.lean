/- Package exact: QBase NatText QSmall QPlus. -/
import Derived.Test.YtccabfblgjcboaaGreatDoorV12
import Derived.Laws.IdiomStrings
import Derived.RangeFuncBox
import Derived.Test.YtccabfblgjcboaaGreatDoorV14
set_option linter.all false

namespace Go.Proofs.YtccabfblgjcboaaGreatDoor
open Go Go.RowKit Go.Proofs Lim
abbrev lo (neg : Bool) (n l : Nat) : Value := .agg #[.bool neg, u n, u l, .pointer none]
abbrev wi (neg : Bool) (p : Addr) : Value := .agg #[.bool neg, u 0, u 0, .pointer (some p)]
inductive Num (w : World) (v : Value) (neg : Bool) (n d : Nat) : Prop
 | low (l : Nat) (hv : v = lo neg n l) (hd : d = l + 1) (hn : n < B) (hdB : d < B)
 | wide (b : Nat) (x y : Value) (hv : v = wi neg ⟨b, 0, none⟩) (hx : w.cell? ⟨b, 0, none⟩ = some x) (hy : w.cell? ⟨b, 1, none⟩ = some y) (h1 : co w x n) (h2 : co w y d) (hB : B ≤ n ∨ B ≤ d) (h0 : 0 < n) (hd : 0 < d)
theorem Num.below {w w' : World} {v : Value} {neg : Bool} {n d : Nat} {k : Nat} (h : Num w v neg n d) (hb : Below k w w') (hk : w.heap.size ≤ k) : Num w' v neg n d := by
 cases h with
 | low l hv hd hn hdB => exact .low l hv hd hn hdB
 | wide b x y hv hx hy h1 h2 hB h0 hd =>
  have hlt := World.block_lt_of_cell? w _ hx
  exact .wide b x y hv ((hb.cell (p := ⟨b, 0, none⟩) (Nat.lt_of_lt_of_le hlt hk)).trans hx) ((hb.cell (p := ⟨b, 1, none⟩) (Nat.lt_of_lt_of_le hlt hk)).trans hy) (h1.below hb hk) (h2.below hb hk) hB h0 hd
def cR (w : World) (v : Value) (r : Rat) : Prop := Num w v (decide (r.num < 0)) r.num.natAbs r.den
theorem cR.below {w w' : World} {v : Value} {r : Rat} {k : Nat} (h : cR w v r) (hb : Below k w w') (hk : w.heap.size ≤ k) : cR w' v r := Num.below h hb hk
def cF (r : Rat) (k : Nat) : Prop := r.num.natAbs < B ^ k ∧ r.den < B ^ k
def cX (w : World) (r : Rat) (e : Ending) (w' : World) : Prop := ∃ v, e = .returned v ∧ cR w' v r ∧ Below w.heap.size w w'
def Val (w : World) (v : Value) (e : Ending) (w' : World) : Prop := e = .returned v ∧ Below w.heap.size w w'
theorem cu (w : World) (o : Obj) : Below w.heap.size w (w.alloc o) := (Below.refl _ w).alloc (Nat.le_refl _) o
theorem small_any (neg : Bool) (n d : Nat) (hd : d < B) (w : World) :
 Calls Tryz.prog 86 #[.bool neg, u n, u d] w (Val w (lo (neg && !decide (n = 0)) n (difLo d 1))) := by
 have k0 : IntKind.u64.wrap ((d : Nat) - (1 : Int)) = ((difLo d 1 : Nat) : Int) := by
  have := dif_eq (x := d) (y := 1) hd (by decide)
  have h2 := difLo_lt d 1
  have h3 := difHi_le d 1
  rw [IntKind.wrap_u64]
  generalize difHi d 1 = c at *
  generalize difLo d 1 = b at *
  unfold B at *
  omega
 generalize difLo d 1 = l at *
 have k1 : (((n : Nat) : Int) != 0) = !decide (n = 0) := by rw [Bool.eq_iff_iff]; simp
 go_enter Tryz.func86, Tryz.ntmps86
 go_wp2_with fail
 · rename_i h
   subst h
   refine bodyPost_ret (v := lo (!decide (n = 0)) n l) (by simp [results, Tryz.results86, go_sem]) rfl ?_
   exact ⟨by simp, cu w _⟩
 · rename_i h
   have h : neg = false := by simpa using h
   subst h
   refine bodyPost_ret (v := lo false n l) (by simp [results, Tryz.results86, go_sem]) rfl ?_
   exact ⟨by simp, cu w _⟩
theorem bottom_any (neg : Bool) (n l : Nat) (p : Option Addr) (hd : l + 1 < B) (w : World) :
 Calls Tryz.prog 90 #[.agg #[.bool neg, u n, u l, .pointer p]] w (Val w (u (l + 1))) := by
 have k0 : IntKind.u64.wrap ((l : Nat) + (1 : Int)) = ((l + 1 : Nat) : Int) := by
  exact wrap_add (x := l) (y := 1) hd
 go_enter Tryz.func90, Tryz.ntmps90
 go_wp2_with fail
 go_ret
 exact ⟨rfl, cu w _⟩
theorem timesWord_any (x y : Nat) (hx : x < B) (hy : y < B) (w : World) :
 Calls Tryz.prog 129 #[u x, u y] w (fun e w' => e = .returned (.tuple #[u (cL x y), .bool (decide (ja x y = 0))]) ∧ Below w.heap.size w w') := by
 go_enter Tryz.func129, Tryz.ntmps129
 go_wp2_with fail
 refine (mul64 x y hx hy w).mono ?_
 rintro e w' ⟨rfl, rfl⟩
 have k0 : (((ja x y : Nat) : Int) == 0) = decide (ja x y = 0) := by rw [Bool.eq_iff_iff]; simp
 go_wp2_with fail
 refine bodyPost_ret (v := .tuple #[u (cL x y), .bool (decide (ja x y = 0))]) (by simp [results, Tryz.results129, go_sem]) rfl ?_
 exact ⟨rfl, by first | exact Below.refl _ _ | exact cu w _⟩
def addS (a : Bool) (x : Nat) (b : Bool) (y : Nat) : Bool × Nat := if a = b then (a, x + y) else if y ≤ x then (a, x - y) else (b, y - x)
def AddWPost (w : World) (neg : Bool) (t : Nat) (e : Ending) (w' : World) : Prop :=
 ∃ s, s < B ∧ ∃ ok : Bool, (ok = true → s = t) ∧ e = .returned (.tuple #[.bool neg, u s, .bool ok]) ∧ Below w.heap.size w w'
attribute [local go_sem] run_add64
theorem addWords_any (a b : Bool) (x y : Nat) (hx : x < B) (hy : y < B) (w : World) :
 Calls Tryz.prog 130 #[.bool a, u x, .bool b, u y] w (AddWPost w (addS a x b y).1 (addS a x b y).2) := by
 have k0 := sum_eq x y
 have k1 := sumHi_le hx hy
 have k2 := sumLo_lt x y
 have K0 := Lib.hid k0
 have k5 : (((sumHi x y : Nat) : Int) == 0) = decide (sumHi x y = 0) := by rw [Bool.eq_iff_iff]; simp
 clear k0
 by_cases hab : a = b
 · subst hab
   go_enter Tryz.func130, Tryz.ntmps130
   go_wp2_with fail
   refine bodyPost_ret (v := .tuple #[.bool a, u (sumLo x y), .bool (decide (sumHi x y = 0))]) (by simp [results, Tryz.results130, go_sem]) rfl ?_
   refine ⟨sumLo x y, k2, decide (sumHi x y = 0), ?_, by simp [addS], by first | exact Below.refl _ _ | exact cu w _⟩
   intro h
   have h : sumHi x y = 0 := by simpa using h
   have := K0.out
   rw [h] at this
   simp [addS]
   omega
 · have hab' : (a == b) = false := by simpa using hab
   by_cases hc : y ≤ x
   · have k3 : IntKind.u64.wrap ((x : Int) - (y : Int)) = ((x - y : Nat) : Int) := wrap_sub hx hc
     go_enter Tryz.func130, Tryz.ntmps130
     go_wp2_with fail
     refine bodyPost_ret (v := .tuple #[.bool a, u (x - y), .bool true]) (by simp [results, Tryz.results130, go_sem]) rfl ?_
     exact ⟨x - y, by omega, true, by simp [addS, hab, hc], by simp [addS, hab, hc], by first | exact Below.refl _ _ | exact cu w _⟩
   · have k3 : IntKind.u64.wrap ((y : Int) - (x : Int)) = ((y - x : Nat) : Int) := wrap_sub hy (by omega)
     go_enter Tryz.func130, Tryz.ntmps130
     go_wp2_with fail
     refine bodyPost_ret (v := .tuple #[.bool b, u (y - x), .bool true]) (by simp [results, Tryz.results130, go_sem]) rfl ?_
     exact ⟨y - x, by omega, true, by simp [addS, hab, hc], by simp [addS, hab, hc], by first | exact Below.refl _ _ | exact cu w _⟩
theorem cq {X W : World} {b : Nat} {a0 a1 a2 a3 : Value} (hb : Below X.heap.size X W) (h0 : X.cell? ⟨b, 0, none⟩ = some a0) (h1 : X.cell? ⟨b, 1, none⟩ = some a1) (h2 : X.cell? ⟨b, 2, none⟩ = some a2) (h3 : X.cell? ⟨b, 3, none⟩ = some a3) :
 W.cell? ⟨b, 0, none⟩ = some a0 ∧ W.cell? ⟨b, 1, none⟩ = some a1 ∧ W.cell? ⟨b, 2, none⟩ = some a2 ∧ W.cell? ⟨b, 3, none⟩ = some a3 := by
 have hlt := World.block_lt_of_cell? X _ h0
 exact ⟨(hb.cell (p := ⟨b, 0, none⟩) hlt).trans h0, (hb.cell (p := ⟨b, 1, none⟩) hlt).trans h1, (hb.cell (p := ⟨b, 2, none⟩) hlt).trans h2, (hb.cell (p := ⟨b, 3, none⟩) hlt).trans h3⟩
theorem box2 (w : World) (a0 a1 a2 a3 b0 b1 b2 b3 : Value) : ∃ W, W = (w.alloc (.cells #[a0, a1, a2, a3] 26)).alloc (.cells #[b0, b1, b2, b3] 26) ∧ Below w.heap.size w W ∧
 (W.cell? ⟨w.heap.size, 0, none⟩ = some a0 ∧ W.cell? ⟨w.heap.size, 1, none⟩ = some a1 ∧ W.cell? ⟨w.heap.size, 2, none⟩ = some a2 ∧ W.cell? ⟨w.heap.size, 3, none⟩ = some a3) ∧
 (W.cell? ⟨w.heap.size + 1, 0, none⟩ = some b0 ∧ W.cell? ⟨w.heap.size + 1, 1, none⟩ = some b1 ∧ W.cell? ⟨w.heap.size + 1, 2, none⟩ = some b2 ∧ W.cell? ⟨w.heap.size + 1, 3, none⟩ = some b3) := by
 refine ⟨_, rfl, (cu w _).alloc (cu w _).size _, ?_, ?_⟩
 · have h : ((w.alloc (.cells #[a0, a1, a2, a3] 26)).alloc (.cells #[b0, b1, b2, b3] 26)).heap[w.heap.size]? = some (.cells #[a0, a1, a2, a3] 26) := by
    show ((w.heap.push _).push _)[w.heap.size]? = _
    simp [Array.getElem?_push]
   unfold World.cell?
   rw [h]
   exact ⟨rfl, rfl, rfl, rfl⟩
 · have h : ((w.alloc (.cells #[a0, a1, a2, a3] 26)).alloc (.cells #[b0, b1, b2, b3] 26)).heap[w.heap.size + 1]? = some (.cells #[b0, b1, b2, b3] 26) := by
    show ((w.heap.push _).push _)[w.heap.size + 1]? = _
    rw [Array.getElem?_push, if_pos (by simp)]
   unfold World.cell?
   rw [h]
   exact ⟨rfl, rfl, rfl, rfl⟩
def Box (W : World) (b : Nat) (a0 a1 a2 a3 : Value) : Prop := W.heap[b]? = some (.cells #[a0, a1, a2, a3] 26 (0, 0))
theorem Box.below {W W' : World} {b k : Nat} {a0 a1 a2 a3 : Value} (h : Box W b a0 a1 a2 a3) (hb : Below k W W') (hk : W.heap.size ≤ k) : Box W' b a0 a1 a2 a3 :=
 (hb.block b (Nat.lt_of_lt_of_le (Array.getElem?_eq_some_iff.1 h).1 hk)).trans h
theorem Box.cells {W : World} {b : Nat} {a0 a1 a2 a3 : Value} (h : Box W b a0 a1 a2 a3) :
 W.cell? ⟨b, 0, none⟩ = some a0 ∧ W.cell? ⟨b, 1, none⟩ = some a1 ∧ W.cell? ⟨b, 2, none⟩ = some a2 ∧ W.cell? ⟨b, 3, none⟩ = some a3 := by
 unfold Box at h
 simp [World.cell?, h]
theorem Box.frozen {W : World} {b : Nat} {a0 a1 a2 a3 : Value} (h : Box W b a0 a1 a2 a3) (i : Nat) : W.frozen? ⟨b, i, none⟩ = false := by
 unfold Box at h
 simp [World.frozen?, h]
theorem boxz (w : World) : ∃ W, W = w.alloc (.cells #[.bool false, .int .u64 0, .int .u64 0, .pointer none] 26) ∧ Below w.heap.size w W ∧ Box W w.heap.size (.bool false) (.int .u64 0) (.int .u64 0) (.pointer none) ∧ W.heap.size = w.heap.size + 1 :=
 ⟨_, rfl, cu w _, heap_alloc_new w _, by show (w.heap.push _).size = _; simp⟩
theorem box3 (w : World) (a0 a1 a2 a3 b0 b1 b2 b3 : Value) : ∃ W, W = ((w.alloc (.cells #[a0, a1, a2, a3] 26)).alloc (.cells #[b0, b1, b2, b3] 26)).alloc (.cells #[.bool false, .int .u64 0, .int .u64 0, .pointer none] 26) ∧ Below w.heap.size w W ∧
 (W.cell? ⟨w.heap.size, 0, none⟩ = some a0 ∧ W.cell? ⟨w.heap.size, 1, none⟩ = some a1 ∧ W.cell? ⟨w.heap.size, 2, none⟩ = some a2 ∧ W.cell? ⟨w.heap.size, 3, none⟩ = some a3) ∧
 (W.cell? ⟨w.heap.size + 1, 0, none⟩ = some b0 ∧ W.cell? ⟨w.heap.size + 1, 1, none⟩ = some b1 ∧ W.cell? ⟨w.heap.size + 1, 2, none⟩ = some b2 ∧ W.cell? ⟨w.heap.size + 1, 3, none⟩ = some b3) ∧
 Box W (w.heap.size + 1 + 1) (.bool false) (.int .u64 0) (.int .u64 0) (.pointer none) := by
 obtain ⟨W, hW, hb, hf, hg⟩ := box2 w a0 a1 a2 a3 b0 b1 b2 b3
 rw [← hW]
 have hs : W.heap.size = w.heap.size + 1 + 1 := by
  rw [hW]
  show ((w.heap.push _).push _).size = _
  simp
 have hb2 := cu W (.cells #[.bool false, .int .u64 0, .int .u64 0, .pointer none] 26)
 refine ⟨_, rfl, hb.trans (hb2.mono hb.size), cq hb2 hf.1 hf.2.1 hf.2.2.1 hf.2.2.2, cq hb2 hg.1 hg.2.1 hg.2.2.1 hg.2.2.2, ?_⟩
 rw [← hs]
 exact heap_alloc_new W _
theorem cI {w W0 W1 : World} (h : Below w.heap.size w W0) (k : Below W0.drew.heap.size W0.drew W1) : Below w.heap.size w W1 :=
 h.drew.trans (k.mono h.drew.size)
theorem cf {w W0 W1 : World} (h : Below w.heap.size w W0) (k : Below W0.heap.size W0 W1) : Below w.heap.size w W1 :=
 h.trans (k.mono h.size)
theorem box1 (w : World) (a0 a1 a2 a3 : Value) : ∃ W, W = w.alloc (.cells #[a0, a1, a2, a3] 26) ∧ Below w.heap.size w W ∧
 (W.cell? ⟨w.heap.size, 0, none⟩ = some a0 ∧ W.cell? ⟨w.heap.size, 1, none⟩ = some a1 ∧ W.cell? ⟨w.heap.size, 2, none⟩ = some a2 ∧ W.cell? ⟨w.heap.size, 3, none⟩ = some a3) := by
 refine ⟨_, rfl, cu w _, ?_⟩
 have h : (w.alloc (.cells #[a0, a1, a2, a3] 26)).heap[w.heap.size]? = some (.cells #[a0, a1, a2, a3] 26) := by
  show (w.heap.push _)[w.heap.size]? = _
  simp
 unfold World.cell?
 rw [h]
 exact ⟨rfl, rfl, rfl, rfl⟩
def firstOf (a c : Int) : Int := if a = 0 then c else a
theorem or_two (a c : Int) (b : Nat) (w : World) (h0 : w.cell? ⟨b, 0, none⟩ = some (.int .i64 a)) (h1 : w.cell? ⟨b, 1, none⟩ = some (.int .i64 c)) :
 Calls Tryz.prog 133 #[.slice (some ⟨b, 0, none⟩) 2 2] w (Val w (.int .i64 (firstOf a c))) := by
 obtain ⟨f, hf⟩ : ∃ f, f = firstOf a c := ⟨_, rfl⟩
 rw [← hf]
 have HF := Lib.hid hf
 clear hf
 go_enter Tryz.func133, Tryz.ntmps133
 go_wp2_with fail
 go_loopw [8] (fun i wr => wr = w ∧ (i = .int .i64 0 ∨ (i = .int .i64 1 ∧ a = 0) ∨ (i = .int .i64 2 ∧ a = 0 ∧ c = 0))) (fun i _ => 2 - (intOf i).toNat)
 case atStart => exact ⟨rfl, .inl rfl⟩
 case round =>
  obtain ⟨rfl, rfl | ⟨rfl, ha⟩ | ⟨rfl, ha, hc⟩⟩ := hrel
  · by_cases ha : a = 0
    · subst ha
      go_wp2_with fail
      go_roundw
      case rel => simp
      case measure => simp [intOf]
    · go_wp2_with fail
      go_ret
      have := HF.out
      rw [firstOf, if_neg ha] at this; rw [this]; exact ⟨rfl, Below.refl _ _⟩
  · subst ha
    by_cases hc : c = 0
    · subst hc
      go_wp2_with fail
      go_roundw
      case rel => simp
      case measure => simp [intOf]
    · go_wp2_with fail
      go_ret
      have := HF.out
      rw [firstOf, if_pos rfl] at this; rw [this]; exact ⟨rfl, Below.refl _ _⟩
  · subst ha hc
    go_wp2_with fail
    go_ret
    have := HF.out
    exact ⟨by rw [this]; rfl, Below.refl _ _⟩
theorem first_cmp (m n : Nat) : firstOf (cD (m / B) (n / B)) (cD (m % B) (n % B)) = cD m n := by
 have h1 := Nat.div_add_mod m B
 have h2 := Nat.div_add_mod n B
 have h3 := Nat.mod_lt m cO
 have h4 := Nat.mod_lt n cO
 generalize m / B = q at *
 generalize n / B = r at *
 generalize m % B = s at *
 generalize n % B = t at *
 generalize B = b at *
 unfold firstOf cD
 rcases Nat.lt_trichotomy q r with h | h | h
 · have : b * q + b ≤ b * r := by rw [← Nat.mul_succ]; exact Nat.mul_le_mul_left _ h
   have g1 : m < n := by omega
   have g2 : ¬ q = r := by omega
   simp [*]
 · subst h
   simp
   omega
 · have : b * r + b ≤ b * q := by rw [← Nat.mul_succ]; exact Nat.mul_le_mul_left _ h
   have g1 : n < m := by omega
   have g2 : ¬ q < r := by omega
   have g3 : ¬ m < n := by omega
   simp [*]
theorem compareSmall_any (neg1 neg2 : Bool) (n1 l1 n2 l2 : Nat) (h1 : n1 < B) (h2 : l1 + 1 < B) (h3 : n2 < B) (h4 : l2 + 1 < B) (w : World) :
 Calls Tryz.prog 97 #[lo neg1 n1 l1, lo neg2 n2 l2] w (Val w (.int .i64 (cD (n1 * (l2 + 1)) (n2 * (l1 + 1))))) := by
 have HB2 := Lib.hid (fun W => bottom_any neg2 n2 l2 none h4 W)
 have HB1 := Lib.hid (fun W => bottom_any neg1 n1 l1 none h2 W)
 have HM1 := Lib.hid (fun W => mul64 n1 (l2 + 1) h1 h4 W)
 have HM2 := Lib.hid (fun W => mul64 n2 (l1 + 1) h3 h2 W)
 go_enter Tryz.func97, Tryz.ntmps97
 go_wp2_with fail
 obtain ⟨W0, hW0, hb0, ⟨f0, f1, f2, f3⟩, ⟨g0, g1, g2, g3⟩⟩ := box2 w (.bool neg1) (u n1) (u l1) (.pointer none) (.bool neg2) (u n2) (u l2) (.pointer none); rw [← hW0]; clear hW0
 go_region_held3 (fun w' => (w'.cell? ⟨w.heap.size, 0, none⟩ = some (.bool neg1) ∧ w'.cell? ⟨w.heap.size, 1, none⟩ = some (u n1) ∧ w'.cell? ⟨w.heap.size, 2, none⟩ = some (u l1) ∧ w'.cell? ⟨w.heap.size, 3, none⟩ = some (.pointer none)) ∧ (w'.cell? ⟨w.heap.size + 1, 0, none⟩ = some (.bool neg2) ∧ w'.cell? ⟨w.heap.size + 1, 1, none⟩ = some (u n2) ∧ w'.cell? ⟨w.heap.size + 1, 2, none⟩ = some (u l2) ∧ w'.cell? ⟨w.heap.size + 1, 3, none⟩ = some (.pointer none))) (go_keep) (first | ((with_reducible refine (HB2.out _).mono ?_); rintro e W1 ⟨rfl, hb⟩; (obtain ⟨_, _, _, _⟩ := cq (b := w.heap.size) hb (by assumption) (by assumption) (by assumption) (by assumption); obtain ⟨_, _, _, _⟩ := cq (b := w.heap.size + 1) hb (by assumption) (by assumption) (by assumption) (by assumption))) | ((with_reducible refine (HM1.out _).mono ?_); rintro e W2 ⟨rfl, rfl⟩))
 have HBa := Lib.hid (cI hb0 hb)
 clear hb0 hb
 have hfin : firstOf (cD (ja n1 (l2 + 1)) (ja n2 (l1 + 1))) (cD (cL n1 (l2 + 1)) (cL n2 (l1 + 1))) = cD (n1 * (l2 + 1)) (n2 * (l1 + 1)) := first_cmp _ _
 have HFin := Lib.hid hfin
 clear hfin
 generalize ja n1 (l2 + 1) = hi1 at *
 generalize cL n1 (l2 + 1) = lo1 at *
 go_wp2_with fail
 go_region_held3 (fun w' => (w'.cell? ⟨w.heap.size, 0, none⟩ = some (.bool neg1) ∧ w'.cell? ⟨w.heap.size, 1, none⟩ = some (u n1) ∧ w'.cell? ⟨w.heap.size, 2, none⟩ = some (u l1) ∧ w'.cell? ⟨w.heap.size, 3, none⟩ = some (.pointer none)) ∧ (w'.cell? ⟨w.heap.size + 1, 0, none⟩ = some (.bool neg2) ∧ w'.cell? ⟨w.heap.size + 1, 1, none⟩ = some (u n2) ∧ w'.cell? ⟨w.heap.size + 1, 2, none⟩ = some (u l2) ∧ w'.cell? ⟨w.heap.size + 1, 3, none⟩ = some (.pointer none))) (go_keep) (first | ((with_reducible refine (HB1.out _).mono ?_); rintro e W3 ⟨rfl, hb⟩; (obtain ⟨_, _, _, _⟩ := cq (b := w.heap.size) hb (by assumption) (by assumption) (by assumption) (by assumption); obtain ⟨_, _, _, _⟩ := cq (b := w.heap.size + 1) hb (by assumption) (by assumption) (by assumption) (by assumption))) | ((with_reducible refine (HM2.out _).mono ?_); rintro e W4 ⟨rfl, rfl⟩))
 have HBb := Lib.hid (cI HBa.out hb)
 clear HBa hb
 generalize ja n2 (l1 + 1) = hi2 at *
 generalize cL n2 (l1 + 1) = lo2 at *
 go_wp2_with fail
 refine (compare_u64 hi1 hi2 _).mono ?_
 rintro e W5 ⟨rfl, rfl⟩
 go_wp2_with fail
 refine (compare_u64 lo1 lo2 _).mono ?_
 rintro e W6 ⟨rfl, rfl⟩
 go_wp2_with fail
 refine (or_two (cD hi1 hi2) (cD lo1 lo2) W3.heap.size _ (World.cell?_alloc_new ..) (World.cell?_alloc_new ..)).mono ?_
 rintro e W7 ⟨rfl, hb7⟩
 go_wp2_with fail
 go_ret
 rw [HFin.out]
 refine ⟨rfl, HBb.out.trans ((cu W3 _).trans (hb7.mono (cu W3 _).size) |>.mono HBb.out.size)⟩
open Go Go.RowKit Go.Proofs Lim
abbrev b8 (c : UInt8) : Value := .int .u8 (c.toNat : Int)
abbrev str (l : List UInt8) : Value := .string ⟨l.toArray⟩
def BBlk (w : World) (b : Nat) (l : List UInt8) : Prop := ∃ T : List Value, w.heap[b]? = some (.cells (l.map b8 ++ T).toArray 5 (0, 0))
theorem BBlk.lt {w : World} {b : Nat} {l : List UInt8} (h : BBlk w b l) : b < w.heap.size := let ⟨_, h⟩ := h; (Array.getElem?_eq_some_iff.1 h).1
theorem BBlk.cell {w : World} {b : Nat} {l : List UInt8} (h : BBlk w b l) (i : Nat) (hi : i < l.length) : w.cell? ⟨b, i, none⟩ = some (b8 l[i]) := by
 obtain ⟨T, h⟩ := h
 simp only [World.cell?, h]
 simp [hi, List.getElem?_append_left]
theorem BBlk.frozen {w : World} {b : Nat} {l : List UInt8} (h : BBlk w b l) (i : Nat) : w.frozen? ⟨b, i, none⟩ = false := by
 obtain ⟨T, h⟩ := h
 simp only [World.frozen?, h]
 simp
theorem BBlk.set {w : World} {b : Nat} {l : List UInt8} (h : BBlk w b l) (i : Nat) (c : UInt8) (hi : i < l.length) : BBlk (w.setCell ⟨b, i, none⟩ (b8 c)) b (l.set i c) := by
 obtain ⟨T, h⟩ := h
 refine ⟨T, ?_⟩
 simp only [World.setCell, Array.getElem?_modify]
 simp [h, List.map_set, List.set_append_left, hi]
theorem BBlk.of_block {w w' : World} {b : Nat} {l : List UInt8} (h : BBlk w b l) (hb : w'.heap[b]? = w.heap[b]?) : BBlk w' b l := let ⟨T, h⟩ := h; ⟨T, by rw [hb, h]⟩
theorem Boxed.of_block {W W' : World} {B : Nat} {t : TypeId} {v : Value} (h : Boxed W B t v) (hb : W'.heap[B]? = W.heap[B]?) : Boxed W' B t v := hb.trans h
theorem made_bytes (n : Nat) : (madeCells #[Value.int .u8 0] n).toList = (List.replicate n (0 : UInt8)).map b8 := by
 have h : (fun x => (#[Value.int .u8 0] : Array Value)[x % 1]!) = fun _ => b8 0 := by funext x; simp [Nat.mod_one]
 show ((Array.range n).map (fun x => (#[Value.int .u8 0] : Array Value)[x % 1]!)).toList = _
 rw [h]
 simp [List.map_const']
theorem info_u8 : (Tryz.prog.info? 5).map (fun i => (i.zero, i.size, i.bytes)) = some (some (.int .u8 0), 1, 1) := by kernel_rfl
theorem made_bblk {w w1 : World} {n : Nat} (hown : w1.ownsRow w.heap.size 5 1 (.slice (some ⟨w.heap.size, 0, none⟩) n n) n (madeCells #[Value.int .u8 0] n).toList)
 (hgrow : w.grownBy w1 none) : BBlk w1 w.heap.size (List.replicate n 0) ∧ Below w.heap.size w w1 := by
 rw [made_bytes] at hown
 obtain ⟨h1, ⟨h2, _⟩ | ⟨g, cap, cur, hv, hb, hg, hn, hm, hs, ht⟩⟩ := hown
 · cases h2
 · injection hv with hv1 hv2 hv3
   injection hv1 with hv1
   injection hv1 with hv1
   subst hv1
   refine ⟨⟨cur.toList.drop (n * 1), ?_⟩, (Below.refl _ w).grown hgrow (Nat.le_refl _) (by intro k hk; cases hk)⟩
   rw [hg, ← ht, List.take_append_drop]
theorem set_digit (j : Nat) (r : List UInt8) (c : UInt8) : (List.replicate (j + 1) (0 : UInt8) ++ r).set j c = List.replicate j 0 ++ (c :: r) := by
 rw [List.replicate_succ', List.append_assoc]
 rw [List.set_append_right _ _ (by simp)]
 simp
def soFar (pre : List Nat) : List UInt8 := (pre.map dbyte).reverse
theorem soFar_snoc (pre : List Nat) (d : Nat) : soFar (pre ++ [d]) = dbyte d :: soFar pre := by unfold soFar; simp
theorem soFar_len (pre : List Nat) : (soFar pre).length = pre.length := by unfold soFar; simp
theorem dbyte_b8 {d : Nat} (h : d < 10) : dval8 d = b8 (dbyte d) := by
 unfold dval8 b8
 rw [dbyte_toNat h]
 congr 1
def ji (w : World) (l : List UInt8) (e : Ending) (w' : World) : Prop := e = .returned (str l) ∧ Below w.heap.size w w'
theorem digits_call (v : Value) (n : Nat) (w : World) (h : co w v n) :
 Calls Tryz.prog 126 #[v] w (fun e w' => e = .returned (.func (.func 145) #[] #[.pointer (some ⟨w.heap.size, 0, none⟩)]) ∧ w' = w.alloc (.cells #[v] 110)) := by
 obtain ⟨xs, ⟨⟨xa, xc, rfl, _⟩, _⟩, _⟩ := h
 go_enter Tryz.func126, Tryz.ntmps126
 go_wp2_with fail
 go_ret
 exact ⟨rfl, rfl⟩
theorem text_zero (v : Value) (w : World) (h : co w v 0) : Calls Tryz.prog 85 #[v] w (ji w (cz 0)) := by
 obtain ⟨ao, l, c, rfl, hl, hz, hB⟩ := h.form
 have hl0 : l = 0 := hz.2 rfl
 subst hl0
 have e : cz 0 = [48] := rfl
 rw [e]
 clear h
 go_enter Tryz.func85, Tryz.ntmps85
 go_wp2_with fail
 go_ret
 exact ⟨rfl, Below.refl _ _⟩
theorem digits_len_le {n k m : Nat} (hk : n < B ^ k) (hm : k = m) : (digs n).length ≤ 20 * m := by
 subst hm
 refine digs_len (Nat.lt_of_lt_of_le hk ?_)
 rw [Nat.pow_mul]
 exact Nat.pow_le_pow_left (by decide) k
def TextInv (w : World) (bt N K : Nat) (pre : List Nat) (W : World) : Prop :=
 BBlk W w.heap.size (List.replicate (K - pre.length) 0 ++ soFar pre) ∧ Boxed W bt 100 (.slice (some ⟨w.heap.size, 0, none⟩) K K) ∧
  Boxed W (bt + 1) 3 (.int .i64 ((K - pre.length : Nat) : Int)) ∧ Below w.heap.size w W ∧ pre <+: digs N
theorem TextInv.lies (w : World) (bt N K B : Nat) (hB : w.heap.size < bt) (h2 : bt + 1 < B) : Lies B (TextInv w bt N K) := by
 rintro pre A C ⟨h1, hx, h3, h4, h5⟩ hb
 exact ⟨h1.of_block (hb.block _ (by omega)), Boxed.of_block hx (hb.block _ (by omega)), Boxed.of_block h3 (hb.block _ (by omega)), h4.trans (hb.mono (by omega)), h5⟩
theorem Keep.setCell (m : Nat) (A : World) (b o : Nat) (v : Value) (h : b < m) : Keep m A (A.setCell ⟨b, o, none⟩ v) :=
 ⟨by simp [World.setCell], fun k hk _ => Below.heap_setCell _ _ _ _ (by show k ≠ b; omega)⟩
theorem TextInv.step {w W : World} {bt N K j : Nat} {pre : List Nat} {d : Nat} (h : TextInv w bt N K pre W) (hb : w.heap.size < bt) (hj : K - pre.length = j + 1) (hd : d < 10) (hp : (pre ++ [d]) <+: digs N) :
 TextInv w bt N K (pre ++ [d]) ((W.setCell ⟨bt + 1, 0, none⟩ (.int .i64 (j : Int))).setCell ⟨w.heap.size, j, none⟩ (dval8 d)) := by
 obtain ⟨h1, h2, h3, h4, h5⟩ := h
 have e1 : K - (pre ++ [d]).length = j := by rw [List.length_append, List.length_singleton]; omega
 have o1 : cN (bt + 1) W (W.setCell ⟨bt + 1, 0, none⟩ (.int .i64 (j : Int))) := (cN.refl _ W).set 0 _
 have o2 : cN w.heap.size (W.setCell ⟨bt + 1, 0, none⟩ (.int .i64 (j : Int))) ((W.setCell ⟨bt + 1, 0, none⟩ (.int .i64 (j : Int))).setCell ⟨w.heap.size, j, none⟩ (dval8 d)) := (cN.refl _ _).set j _
 refine ⟨?_, ?_, ?_, ?_, hp⟩
 · have := BBlk.set (h1.of_block (o1.block w.heap.size (by omega))) j (dbyte d) (by rw [hj]; simp; omega)
   rw [← dbyte_b8 hd, hj, set_digit] at this
   rw [e1, soFar_snoc]
   exact this
 · exact Boxed.of_block (Boxed.of_block h2 (o1.block bt (by omega))) (o2.block bt (by omega))
 · rw [e1]
   exact Boxed.of_block (Boxed.set _ h3) (o2.block (bt + 1) (by omega))
 · exact (h4.trans (o1.below (by omega))).trans (o2.below (Nat.le_refl _))
attribute [local go_sem] Oper.semAt_some
set_option maxRecDepth 100000 in
set_option maxHeartbeats 2000000 in
theorem text_pos (v : Value) (N k : Nat) (w : World) (h : co w v N) (h0 : 0 < N) (hk : N < B ^ k) (hk2 : (k : Int) ≤ 1073741824) : Calls Tryz.prog 85 #[v] w (ji w (cz N)) := by
 have h' := h
 obtain ⟨xs, ⟨⟨xa, xc, rfl, _, _, _⟩, ok⟩, ht, hval⟩ := h'
 have hl := co.len ht hval hk
 have hx0 : 0 < xs.length := by
  rcases xs with _ | ⟨x, xs⟩
  · simp [val] at hval; omega
  · simp
 have hdl : (digs N).length ≤ 20 * xs.length := digits_len_le (k := xs.length) (by rw [← hval]; exact cW ok) rfl
 obtain ⟨i0, hi, hz0, hz1, hz2⟩ := info_parts info_u8
 obtain ⟨w1, hmk, hown, hgrow⟩ := run_make_full (P := Tryz.prog) w w.heap.size 100 5 i0 (.int .u8 0) 1 Tryz.underlying100 hi hz0 hz1 .i64 .i64 (20 * xs.length) (by rw [hz2]; omega) (by unfold maxLen; omega) (Nat.le_refl _)
 have hblk := made_bblk (by rw [Nat.mul_one] at hown; exact hown) hgrow
 have hcast : ((20 * xs.length : Nat) : Int) = 20 * (xs.length : Int) := by omega
 rw [hcast] at hmk
 have e0 : (((xs.length : Nat) : Int) == 0) = false := by rw [beq_eq_false_iff_ne]; omega
 obtain ⟨K, hKdef⟩ : ∃ K, K = 20 * xs.length := ⟨_, rfl⟩
 rw [← hKdef] at hmk hblk hdl
 obtain ⟨hB1, hbel1⟩ := hblk
 have HB1 := Lib.hid hB1
 have HBel1 := Lib.hid hbel1
 have HH := Lib.hid h
 have HK := Lib.hid hKdef
 have HDL := Lib.hid hdl
 have HXL := Lib.hid hl
 have HNk := Lib.hid hk
 have hl30 : (xs.length : Int) ≤ 1073741824 := by omega
 have hK30 : (K : Int) ≤ 21474836480 := by omega
 clear hown hgrow hB1 hbel1 h hKdef hdl hcast hi hz0 hz1 hz2 ht hval ok hl hk
 refine callsIn_wide (n := 3) |>.1 ?_
 refine callsIn_of_wp_marks Tryz.func85 rfl trivial ?_ rfl
 simp only [Tryz.ntmps85, List.size_toArray, List.length_cons, List.length_nil, Nat.reduceAdd, Nat.reduceSub, Array.replicate_succ, Array.replicate_zero, List.push_toArray, List.append_toArray, List.nil_append, List.cons_append]
 gi_wp2
 have hbt : w.heap.size < w1.heap.size := HB1.out.lt
 have hT1 := Boxed.new w1 100 (.slice (some ⟨w.heap.size, 0, none⟩) K K)
 have hS1 := Boxed.new (w1.alloc (.cells #[.slice (some ⟨w.heap.size, 0, none⟩) K K] 100)) 3 (.int .i64 (K : Int))
 rw [World.size_alloc] at hS1
 have hI : TextInv w w1.heap.size N K [] ((w1.alloc (.cells #[.slice (some ⟨w.heap.size, 0, none⟩) K K] 100)).alloc (.cells #[.int .i64 (K : Int)] 3)) := by
  have b1 := cu w1 (.cells #[.slice (some ⟨w.heap.size, 0, none⟩) K K] 100)
  have b2 := cu (w1.alloc (.cells #[.slice (some ⟨w.heap.size, 0, none⟩) K K] 100)) (.cells #[.int .i64 (K : Int)] 3)
  have b3 := cf b1 b2
  refine ⟨?_, hT1.alloc _, ?_, cf HBel1.out b3, List.nil_prefix⟩
  · have : BBlk w1 w.heap.size (List.replicate (K - ([] : List Nat).length) 0 ++ soFar []) := by simpa [soFar] using HB1.out
    exact this.of_block (b3.block _ hbt)
  · simpa using hS1
 have hs2 : ((w1.alloc (.cells #[.slice (some ⟨w.heap.size, 0, none⟩) K K] 100)).alloc (.cells #[.int .i64 (K : Int)] 3)).heap.size = w1.heap.size + 1 + 1 := by rw [World.size_alloc, World.size_alloc]
 obtain ⟨W2, hW2⟩ : ∃ W2, (w1.alloc (.cells #[.slice (some ⟨w.heap.size, 0, none⟩) K K] 100)).alloc (.cells #[.int .i64 (K : Int)] 3) = W2 := ⟨_, rfl⟩
 rw [hW2] at hI hs2 ⊢
 have HI := Lib.hid hI
 have HS2 := Lib.hid hs2
 have HBt := Lib.hid hbt
 clear hW2 hI hs2 hT1 hS1 hmk hbt
 have hN2 := HH.out.below HI.out.2.2.2.1 (Nat.le_refl _)
 refine ⟨trivial, (callsW (digits_call _ N W2 hN2)).mono ?_⟩
 rintro e W3 ⟨rfl, rfl⟩
 have hI3 := TextInv.lies w w1.heap.size N K W2.heap.size HBt.out (by rw [HS2.out]; omega) _ _ _ HI.out (cu W2 (.cells #[.slice xa xs.length xc] 110))
 have hc3 : (W2.alloc (.cells #[.slice xa xs.length xc] 110)).cell? ⟨W2.heap.size, 0, none⟩ = some (.slice xa xs.length xc) := World.cell?_alloc_new ..
 have hN3 := hN2.below (cu W2 (.cells #[.slice xa xs.length xc] 110)) (Nat.le_refl _)
 have hs3 : (W2.alloc (.cells #[.slice xa xs.length xc] 110)).heap.size = w1.heap.size + 1 + 1 + 1 := by rw [World.size_alloc, HS2.out]
 rw [HS2.out] at hc3 ⊢
 obtain ⟨W3, hW3⟩ : ∃ W3, W2.alloc (.cells #[.slice xa xs.length xc] 110) = W3 := ⟨_, rfl⟩
 rw [hW3] at hI3 hc3 hN3 hs3 ⊢
 have HI3 := Lib.hid hI3
 have HN3 := Lib.hid hN3
 have HC3 := Lib.hid hc3
 have HS3 := Lib.hid hs3
 clear hW3 hI3 hN3 hc3 hs3 hN2 HI HS2
 generalize w1.heap.size = bt at *
 gi_wp2
 refine wpIn_rangeFunc_cells (w0 := W3) rfl (by decide) (gf := 145) (lb := #[.pointer (some ⟨bt + 1 + 1, 0, none⟩)]) rfl trivial (enters_of Tryz.func145 (by kernel_rfl) rfl)
  (digits_own (3 - 1) (by decide) (bt + 1 + 1) _ N k W3 HC3.out HN3.out h0 HNk.out hk2) (Below.refl _ _) rfl (TextInv w bt N K) (TextInv.lies w bt N K W3.heap.size HBt.out (by rw [HS3.out]; omega)) HI3.out
  (fun d => { tmps := #[.slice xa xs.length xc, undef, .string { data := #[] }, .pointer (some ⟨bt, 0, none⟩), .pointer (some ⟨bt + 1, 0, none⟩), dval8 d, .slice xa xs.length xc, .int .i64 (xs.length : Int), .bool false, .slice xa xs.length xc, .int .i64 (xs.length : Int), .int .i64 (20 * (xs.length : Int)), .slice (some ⟨w.heap.size, 0, none⟩) K K, .slice (some ⟨w.heap.size, 0, none⟩) K K, .int .i64 (K : Int), .slice xa xs.length xc, .func (.func 145) #[] #[.pointer (some ⟨bt + 1 + 1, 0, none⟩)], dval8 d, undef, undef, undef, undef, undef, undef, undef, undef, undef, undef], defers := [] }) ?assign ?body ?done
 case assign =>
  intro l d W K' hK'
  gi_wp2
  exact hK'
 case body =>
  intro l pre d W hI hok hsz
  have hlen : pre.length + 1 ≤ K := by
   have h1 := List.IsPrefix.length_le hok
   rw [List.length_append, List.length_singleton] at h1
   have := HDL.out
   omega
  obtain ⟨j, hj⟩ : ∃ j, K - pre.length = j + 1 := ⟨K - pre.length - 1, by omega⟩
  have hjK : (j : Int) < (K : Int) := by omega
  have hd10 : d < 10 := digs_lt N d (hok.subset (by simp))
  have HStep := Lib.hid (hI.step HBt.out hj hd10 hok)
  obtain ⟨h1, h2, h3, h4, h5⟩ := hI
  rw [hj] at h1 h3
  have c1 := h1.cell j (by simp; omega)
  have f1 := h1.frozen j
  have c2 := h2.cell
  have c3 : W.cell? ⟨bt + 1, 0, none⟩ = some (.int .i64 ((j : Int) + 1)) := h3.cell
  have f3 := h3.frozen
  have hbt := HBt.out
  have m1 : ¬ w.heap.size = bt + 1 := by omega
  have m2 : ¬ bt + 1 = w.heap.size := by omega
  have m3 : ¬ bt = bt + 1 := by omega
  have m4 : ¬ bt + 1 = bt := by omega
  have hW3 : bt + 1 < W3.heap.size := by rw [HS3.out]; omega
  have HK1 := Lib.hid (((Keep.setCell W3.heap.size W (bt + 1) 0 (.int .i64 (j : Int)) hW3).trans (Keep.setCell W3.heap.size _ w.heap.size j (dval8 d) (by omega))))
  clear h1 h2 h3 h4 h5 hok hj hlen hsz hW3 hd10
  gi_wp2
  exact ⟨HK1.out, HStep.out⟩
 case done =>
  intro ys W hS hI hlt hD
  subst hS
  obtain ⟨h1, h2, h3, h4, h5⟩ := hI
  have hso : soFar (digs N) = cz N := by unfold soFar cz; rw [if_neg (by omega)]
  rw [hso] at h1
  have hnl : (cz N).length = (digs N).length := by rw [← hso, soFar_len]
  have hdl := HDL.out
  have hd0 : 0 < (digs N).length := by rw [digs_pos (by omega)]; simp
  obtain ⟨s, hs⟩ : ∃ s, s = K - (digs N).length := ⟨_, rfl⟩
  rw [← hs] at h1 h3
  have hlK : (cz N).length = K - s := by omega
  have hsK : (s : Int) < (K : Int) := by omega
  have hsK1 : (s : Int) ≤ (K : Int) := by omega
  have hns : ¬ K = s := by omega
  have hconv := fun cap => run_convert_bytes_back (P := Tryz.prog) W 100 9 5 ⟨w.heap.size, s, none⟩ cap (cz N) Tryz.underlying100 Tryz.underlying5 Tryz.underlying9 (fun j hj => by
   rw [Addr.add_lit, h1.cell (s + j) (by simp; omega)]
   have e : (List.replicate s (0 : UInt8) ++ cz N)[s + j]'(by simp; omega) = (cz N)[j] := by
    rw [List.getElem_append_right (by simp)]
    simp
   rw [e])
  rw [hlK] at hconv
  have hconv := hconv (K - s)
  have c2 := h2.cell
  have c3 : W.cell? ⟨bt + 1, 0, none⟩ = some (.int .i64 (s : Int)) := h3.cell
  have HH4 := Lib.hid h4
  have HD := Lib.hid hD
  have HSz := Lib.hid hlt
  clear h1 h2 h3 h4 h5 hso hnl hdl hd0 hs hlK hD hlt
  gi_wp2
  refine ⟨by simp, .inl ⟨_, _, rfl, run_takeDeferred HD.out, ?_⟩⟩
  refine ⟨_, results_tmp rfl _ _ _, rfl, HH4.out.trans (below_putObj _ _ ?_)⟩
  have := HBt.out
  rw [HS3.out]
  omega
theorem text_any (v : Value) (N k : Nat) (w : World) (h : co w v N) (hk : N < B ^ k) (hk2 : (k : Int) ≤ 1073741824) : Calls Tryz.prog 85 #[v] w (ji w (cz N)) := by
 rcases Nat.eq_zero_or_pos N with h0 | h0
 · subst h0; exact text_zero v w h
 · exact text_pos v N k w h h0 hk hk2
open Go Go.RowKit Go.Proofs Lim
def SmallPost (w : World) (neg : Bool) (num den : Nat) (e : Ending) (w' : World) : Prop :=
 ∃ a b c, ∃ ok : Bool, e = .returned (.tuple #[lo a b c, .bool ok]) ∧ (ok = true → num < B ∧ den < B ∧ 0 < den → a = (neg && !decide (num = 0)) ∧ b = num ∧ c + 1 = den) ∧ (ok = true → num < B ∧ den < B) ∧ Below w.heap.size w w'
theorem js {w W0 W : World} {b : Nat} (h0 : Below w.heap.size w W0) (h : Below W0.heap.size W0 W) (hb : w.heap.size ≤ b) (a0 a1 a2 a3 : Value) :
 Below w.heap.size w ((((W.setCell ⟨b, 0, none⟩ a0).setCell ⟨b, 1, none⟩ a1).setCell ⟨b, 2, none⟩ a2).setCell ⟨b, 3, none⟩ a3) :=
 (h0.trans (h.mono h0.size)).trans (((((cN.refl b W).set 0 a0).set 1 a1).set 2 a2).set 3 a3 |>.below hb)
theorem difLo_one {d : Nat} (hd : d < B) (h0 : 0 < d) : difLo d 1 + 1 = d := by
 have := dif_eq (x := d) (y := 1) hd (by decide)
 have h2 : difHi d 1 = 0 := by rw [difHi, if_neg (by omega)]
 rw [h2] at this
 omega
theorem fits {x y : Nat} (h : decide (ja x y = 0) = true) : cL x y = x * y := by
 have h : ja x y = 0 := by simpa using h
 have := prod_eq x y
 rw [h, Nat.mul_zero, Nat.add_zero] at this
 exact this
set_option maxHeartbeats 1600000 in
theorem timesSmall_any (neg1 neg2 : Bool) (n1 l1 n2 l2 : Nat) (h1 : n1 < B) (h2 : l1 + 1 < B) (h3 : n2 < B) (h4 : l2 + 1 < B) (w : World) (hG : Gr w) :
 Calls Tryz.prog 96 #[lo neg1 n1 l1, lo neg2 n2 l2] w (SmallPost w (neg1 != neg2) (n1 / Nat.gcd n1 (l2 + 1) * (n2 / Nat.gcd n2 (l1 + 1))) ((l1 + 1) / Nat.gcd n2 (l1 + 1) * ((l2 + 1) / Nat.gcd n1 (l2 + 1)))) := by
 have HB2 := Lib.hid (fun W => bottom_any neg2 n2 l2 none h4 W)
 have HB1 := Lib.hid (fun W => bottom_any neg1 n1 l1 none h2 W)
 have HC1 := Lib.hid (fun W (hW : Below w.heap.size w W) => commonWord_any n1 (l2 + 1) h1 h4 W (hG.below hW hG.size))
 have HC2 := Lib.hid (fun W (hW : Below w.heap.size w W) => commonWord_any n2 (l1 + 1) h3 h2 W (hG.below hW hG.size))
 have hg1 : 0 < Nat.gcd n1 (l2 + 1) := Nat.gcd_pos_of_pos_right _ (by omega)
 have hg2 : 0 < Nat.gcd n2 (l1 + 1) := Nat.gcd_pos_of_pos_right _ (by omega)
 clear hG
 have o1 : 0 < l1 + 1 := by omega
 have o2 : 0 < l2 + 1 := by omega
 generalize l1 + 1 = e1 at *
 generalize l2 + 1 = e2 at *
 generalize Nat.gcd n1 e2 = c1 at *
 generalize Nat.gcd n2 e1 = c2 at *
 have d1 : ((n1 : Nat) : Int) / ((c1 : Nat) : Int) = ((n1 / c1 : Nat) : Int) := by rw [Int.natCast_ediv]
 have d2 : ((n2 : Nat) : Int) / ((c2 : Nat) : Int) = ((n2 / c2 : Nat) : Int) := by rw [Int.natCast_ediv]
 have d3 : ((e1 : Nat) : Int) / ((c2 : Nat) : Int) = ((e1 / c2 : Nat) : Int) := by rw [Int.natCast_ediv]
 have d4 : ((e2 : Nat) : Int) / ((c1 : Nat) : Int) = ((e2 / c1 : Nat) : Int) := by rw [Int.natCast_ediv]
 have t1 : Int.tdiv ((n1 : Nat) : Int) ((c1 : Nat) : Int) = ((n1 / c1 : Nat) : Int) := by rw [Int.tdiv_eq_ediv_of_nonneg (by omega), Int.natCast_ediv]
 have t2 : Int.tdiv ((n2 : Nat) : Int) ((c2 : Nat) : Int) = ((n2 / c2 : Nat) : Int) := by rw [Int.tdiv_eq_ediv_of_nonneg (by omega), Int.natCast_ediv]
 have t3 : Int.tdiv ((e1 : Nat) : Int) ((c2 : Nat) : Int) = ((e1 / c2 : Nat) : Int) := by rw [Int.tdiv_eq_ediv_of_nonneg (by omega), Int.natCast_ediv]
 have t4 : Int.tdiv ((e2 : Nat) : Int) ((c1 : Nat) : Int) = ((e2 / c1 : Nat) : Int) := by rw [Int.tdiv_eq_ediv_of_nonneg (by omega), Int.natCast_ediv]
 have b1 : n1 / c1 < B := Nat.lt_of_le_of_lt (Nat.div_le_self _ _) h1
 have b2 : n2 / c2 < B := Nat.lt_of_le_of_lt (Nat.div_le_self _ _) h3
 have b3 : e1 / c2 < B := Nat.lt_of_le_of_lt (Nat.div_le_self _ _) h2
 have b4 : e2 / c1 < B := Nat.lt_of_le_of_lt (Nat.div_le_self _ _) h4
 generalize n1 / c1 = q1 at *
 generalize n2 / c2 = q2 at *
 generalize e1 / c2 = q3 at *
 generalize e2 / c1 = q4 at *
 have w1 : IntKind.u64.wrap ((q1 : Nat) : Int) = (q1 : Int) := cP b1
 have w2 : IntKind.u64.wrap ((q2 : Nat) : Int) = (q2 : Int) := cP b2
 have w3 : IntKind.u64.wrap ((q3 : Nat) : Int) = (q3 : Int) := cP b3
 have w4 : IntKind.u64.wrap ((q4 : Nat) : Int) = (q4 : Int) := cP b4
 have z1 : ¬ ((c1 : Nat) : Int) = 0 := by omega
 have z2 : ¬ ((c2 : Nat) : Int) = 0 := by omega
 have x1 : ¬ c1 = 0 := by omega
 have x2 : ¬ c2 = 0 := by omega
 have y1 : (((c1 : Nat) : Int) == 0) = false := by rw [beq_eq_false_iff_ne]; omega
 have y2 : (((c2 : Nat) : Int) == 0) = false := by rw [beq_eq_false_iff_ne]; omega
 have HT1 := Lib.hid (fun W => timesWord_any q1 q2 b1 b2 W)
 have HT2 := Lib.hid (fun W => timesWord_any q3 q4 b3 b4 W)
 clear hg1 hg2 b1 b2 b3 b4
 go_enter Tryz.func96, Tryz.ntmps96
 go_wp2_with fail
 obtain ⟨W0, hW0, hb0, ⟨f0, f1, f2, f3⟩, ⟨g0, g1, g2, g3⟩, hz⟩ := box3 w (.bool neg1) (u n1) (u l1) (.pointer none) (.bool neg2) (u n2) (u l2) (.pointer none); rw [← hW0]; clear hW0; have HZ := Lib.hid hz; have HW0 := Lib.hid hb0; have hb0 := Below.refl W0.heap.size W0; clear hz
 go_region_held3 (fun w' => (w'.cell? ⟨w.heap.size, 0, none⟩ = some (.bool neg1) ∧ w'.cell? ⟨w.heap.size, 1, none⟩ = some (u n1) ∧ w'.cell? ⟨w.heap.size, 2, none⟩ = some (u l1) ∧ w'.cell? ⟨w.heap.size, 3, none⟩ = some (.pointer none)) ∧ (w'.cell? ⟨w.heap.size + 1, 0, none⟩ = some (.bool neg2) ∧ w'.cell? ⟨w.heap.size + 1, 1, none⟩ = some (u n2) ∧ w'.cell? ⟨w.heap.size + 1, 2, none⟩ = some (u l2) ∧ w'.cell? ⟨w.heap.size + 1, 3, none⟩ = some (.pointer none))) (go_keep) (first | ((with_reducible refine (HB2.out _).mono ?_); rintro e W1 ⟨rfl, hb⟩; (obtain ⟨_, _, _, _⟩ := cq (b := w.heap.size) hb (by assumption) (by assumption) (by assumption) (by assumption); obtain ⟨_, _, _, _⟩ := cq (b := w.heap.size + 1) hb (by assumption) (by assumption) (by assumption) (by assumption))) | ((with_reducible refine (HC1.out _ (HW0.out.trans ((cI hb0 hb).mono HW0.out.size))).mono ?_); rintro e W2 ⟨rfl, rfl⟩))
 have HBa := Lib.hid (cI hb0 hb)
 clear hb0 hb
 go_wp2_with fail
 go_region_held3 (fun w' => (w'.cell? ⟨w.heap.size, 0, none⟩ = some (.bool neg1) ∧ w'.cell? ⟨w.heap.size, 1, none⟩ = some (u n1) ∧ w'.cell? ⟨w.heap.size, 2, none⟩ = some (u l1) ∧ w'.cell? ⟨w.heap.size, 3, none⟩ = some (.pointer none)) ∧ (w'.cell? ⟨w.heap.size + 1, 0, none⟩ = some (.bool neg2) ∧ w'.cell? ⟨w.heap.size + 1, 1, none⟩ = some (u n2) ∧ w'.cell? ⟨w.heap.size + 1, 2, none⟩ = some (u l2) ∧ w'.cell? ⟨w.heap.size + 1, 3, none⟩ = some (.pointer none))) (go_keep) (first | ((with_reducible refine (HB1.out _).mono ?_); rintro e W3 ⟨rfl, hb⟩; (obtain ⟨_, _, _, _⟩ := cq (b := w.heap.size) hb (by assumption) (by assumption) (by assumption) (by assumption); obtain ⟨_, _, _, _⟩ := cq (b := w.heap.size + 1) hb (by assumption) (by assumption) (by assumption) (by assumption))) | ((with_reducible refine (HC2.out _ (HW0.out.trans ((cI HBa.out hb).mono HW0.out.size))).mono ?_); rintro e W4 ⟨rfl, rfl⟩))
 have HBb := Lib.hid (cI HBa.out hb)
 clear HBa hb
 go_wp2_with fail
 go_region_held3 (fun w' => (w'.cell? ⟨w.heap.size, 0, none⟩ = some (.bool neg1) ∧ w'.cell? ⟨w.heap.size, 1, none⟩ = some (u n1) ∧ w'.cell? ⟨w.heap.size, 2, none⟩ = some (u l1) ∧ w'.cell? ⟨w.heap.size, 3, none⟩ = some (.pointer none)) ∧ (w'.cell? ⟨w.heap.size + 1, 0, none⟩ = some (.bool neg2) ∧ w'.cell? ⟨w.heap.size + 1, 1, none⟩ = some (u n2) ∧ w'.cell? ⟨w.heap.size + 1, 2, none⟩ = some (u l2) ∧ w'.cell? ⟨w.heap.size + 1, 3, none⟩ = some (.pointer none))) (go_keep) (((with_reducible refine (HT1.out _).mono ?_); rintro e W5 ⟨rfl, hb⟩; (obtain ⟨_, _, _, _⟩ := cq (b := w.heap.size) hb (by assumption) (by assumption) (by assumption) (by assumption); obtain ⟨_, _, _, _⟩ := cq (b := w.heap.size + 1) hb (by assumption) (by assumption) (by assumption) (by assumption))))
 have HBc := Lib.hid (cI HBb.out hb)
 clear HBb hb
 have HF1 := Lib.hid (fits (x := q1) (y := q2))
 have HL1 := Lib.hid (prodLo_lt q1 q2)
 generalize cL q1 q2 = num at *
 generalize decide (ja q1 q2 = 0) = fits1 at *
 go_wp2_with fail
 go_region_held3 (fun w' => (w'.cell? ⟨w.heap.size, 0, none⟩ = some (.bool neg1) ∧ w'.cell? ⟨w.heap.size, 1, none⟩ = some (u n1) ∧ w'.cell? ⟨w.heap.size, 2, none⟩ = some (u l1) ∧ w'.cell? ⟨w.heap.size, 3, none⟩ = some (.pointer none)) ∧ (w'.cell? ⟨w.heap.size + 1, 0, none⟩ = some (.bool neg2) ∧ w'.cell? ⟨w.heap.size + 1, 1, none⟩ = some (u n2) ∧ w'.cell? ⟨w.heap.size + 1, 2, none⟩ = some (u l2) ∧ w'.cell? ⟨w.heap.size + 1, 3, none⟩ = some (.pointer none))) (go_keep) (first | ((with_reducible refine (HB1.out _).mono ?_); rintro e W6 ⟨rfl, hb⟩; (obtain ⟨_, _, _, _⟩ := cq (b := w.heap.size) hb (by assumption) (by assumption) (by assumption) (by assumption); obtain ⟨_, _, _, _⟩ := cq (b := w.heap.size + 1) hb (by assumption) (by assumption) (by assumption) (by assumption))) | ((with_reducible refine (HB2.out _).mono ?_); rintro e W7 ⟨rfl, hb'⟩; (obtain ⟨_, _, _, _⟩ := cq (b := w.heap.size) hb' (by assumption) (by assumption) (by assumption) (by assumption); obtain ⟨_, _, _, _⟩ := cq (b := w.heap.size + 1) hb' (by assumption) (by assumption) (by assumption) (by assumption))) | ((with_reducible refine (HT2.out _).mono ?_); rintro e W8 ⟨rfl, hb''⟩; (obtain ⟨_, _, _, _⟩ := cq (b := w.heap.size) hb'' (by assumption) (by assumption) (by assumption) (by assumption); obtain ⟨_, _, _, _⟩ := cq (b := w.heap.size + 1) hb'' (by assumption) (by assumption) (by assumption) (by assumption))))
 have HBd := Lib.hid ((cI HBc.out hb).trans ((hb'.trans (hb''.mono hb'.size)).mono (cI HBc.out hb).size))
 clear HBc hb hb' hb''
 have HF2 := Lib.hid (fits (x := q3) (y := q4))
 have HL2 := Lib.hid (prodLo_lt q3 q4)
 generalize cL q3 q4 = den at *
 generalize decide (ja q3 q4 = 0) = fits2 at *
 clear f0 f1 f2 f3 g0 g1 g2 g3
 go_wp2_with fail
 refine (small_any (!neg1 == neg2) num den HL2.out _).mono ?_
 rintro e W9 ⟨rfl, hb⟩
 (obtain ⟨_, _, _, _⟩ := cq (b := w.heap.size) hb (by assumption) (by assumption) (by assumption) (by assumption); obtain ⟨_, _, _, _⟩ := cq (b := w.heap.size + 1) hb (by assumption) (by assumption) (by assumption) (by assumption))
 have HBe := Lib.hid (HBd.out.trans (hb.mono HBd.out.size))
 clear HBd hb
 have HD := Lib.hid (difLo_one (d := den) HL2.out)
 generalize hsg : (!neg1 == neg2 && !decide (num = 0)) = sg
 generalize difLo den 1 = ll at *
 have hz := HZ.out.below HBe.out (Nat.le_refl _)
 have zf := hz.frozen
 obtain ⟨z0, z1, z2, z3⟩ := hz.cells
 have zf0 := zf 0
 have zf1 := zf 1
 have zf2 := zf 2
 have zf3 := zf 3
 clear zf hz
 go_wp2_with fail
 · rename_i hf
   have hf : fits1 = true := by simpa using hf
   refine bodyPost_ret (v := .tuple #[lo sg num ll, .bool fits2]) (by simp [results, Tryz.results96, go_sem, z0, z1, z2, z3]) rfl ?_
   refine ⟨sg, num, ll, fits2, rfl, ?_, ?_, js HW0.out HBe.out (by omega) _ _ _ _⟩
   · intro hok hh
     have f1 := HF1.out hf
     have f2 := HF2.out hok
     subst f1 f2
     exact ⟨hsg.symm, rfl, HD.out hh.2.2⟩
   · intro hok
     rw [← HF1.out hf, ← HF2.out hok]
     exact ⟨HL1.out, HL2.out⟩
 · rename_i hf
   have hf : fits1 = false := by simpa using hf
   subst hf
   refine bodyPost_ret (v := .tuple #[lo sg num ll, .bool false]) (by simp [results, Tryz.results96, go_sem, z0, z1, z2, z3]) rfl ?_
   refine ⟨sg, num, ll, false, rfl, ?_, ?_, js HW0.out HBe.out (by omega) _ _ _ _⟩ <;> intro hok <;> exact absurd hok (by simp)
open Go Go.RowKit Go.Proofs Lim
def sumS (neg1 : Bool) (n1 d1 : Nat) (neg2 : Bool) (n2 d2 : Nat) : Bool × Nat := addS neg1 (n1 * (d2 / Nat.gcd d1 d2)) neg2 (n2 * (d1 / Nat.gcd d1 d2))
def sumX (neg1 : Bool) (n1 d1 : Nat) (neg2 : Bool) (n2 d2 : Nat) : Nat := Nat.gcd (sumS neg1 n1 d1 neg2 n2 d2).2 (Nat.gcd d1 d2)
def sumN (neg1 : Bool) (n1 d1 : Nat) (neg2 : Bool) (n2 d2 : Nat) : Nat := (sumS neg1 n1 d1 neg2 n2 d2).2 / sumX neg1 n1 d1 neg2 n2 d2
def sumD (neg1 : Bool) (n1 d1 : Nat) (neg2 : Bool) (n2 d2 : Nat) : Nat := d1 / Nat.gcd d1 d2 * (d2 / sumX neg1 n1 d1 neg2 n2 d2)
set_option maxHeartbeats 3200000 in
theorem plusSmall_any (neg1 neg2 : Bool) (n1 l1 n2 l2 : Nat) (h1 : n1 < B) (h2 : l1 + 1 < B) (h3 : n2 < B) (h4 : l2 + 1 < B) (w : World) (hG : Gr w) :
 Calls Tryz.prog 91 #[lo neg1 n1 l1, lo neg2 n2 l2] w (SmallPost w (sumS neg1 n1 (l1 + 1) neg2 n2 (l2 + 1)).1 (sumN neg1 n1 (l1 + 1) neg2 n2 (l2 + 1)) (sumD neg1 n1 (l1 + 1) neg2 n2 (l2 + 1))) := by
 have HB2 := Lib.hid (fun W => bottom_any neg2 n2 l2 none h4 W)
 have HB1 := Lib.hid (fun W => bottom_any neg1 n1 l1 none h2 W)
 have HC1 := Lib.hid (fun W (hW : Below w.heap.size w W) => commonWord_any (l1 + 1) (l2 + 1) h2 h4 W (hG.below hW hG.size))
 have hg1 : 0 < Nat.gcd (l1 + 1) (l2 + 1) := Nat.gcd_pos_of_pos_right _ (by omega)
 have hgB : Nat.gcd (l1 + 1) (l2 + 1) < B := Nat.lt_of_le_of_lt (Nat.gcd_le_left _ (by omega)) h2
 have o1 : 0 < l1 + 1 := by omega
 have o2 : 0 < l2 + 1 := by omega
 obtain ⟨NEG, hNEG⟩ : ∃ x, x = (sumS neg1 n1 (l1 + 1) neg2 n2 (l2 + 1)).1 := ⟨_, rfl⟩
 obtain ⟨NUM, hNUM⟩ : ∃ x, x = sumN neg1 n1 (l1 + 1) neg2 n2 (l2 + 1) := ⟨_, rfl⟩
 obtain ⟨DEN, hDEN⟩ : ∃ x, x = sumD neg1 n1 (l1 + 1) neg2 n2 (l2 + 1) := ⟨_, rfl⟩
 rw [← hNEG, ← hNUM, ← hDEN]
 unfold sumN sumX sumS at hNUM
 unfold sumD sumX sumS at hDEN
 unfold sumS at hNEG
 have HNEG := Lib.hid hNEG
 have HNUM := Lib.hid hNUM
 have HDEN := Lib.hid hDEN
 clear hNEG hNUM hDEN
 generalize l1 + 1 = e1 at *
 generalize l2 + 1 = e2 at *
 generalize Nat.gcd e1 e2 = c at *
 have t1 : Int.tdiv ((e1 : Nat) : Int) ((c : Nat) : Int) = ((e1 / c : Nat) : Int) := by rw [Int.tdiv_eq_ediv_of_nonneg (by omega), Int.natCast_ediv]
 have t2 : Int.tdiv ((e2 : Nat) : Int) ((c : Nat) : Int) = ((e2 / c : Nat) : Int) := by rw [Int.tdiv_eq_ediv_of_nonneg (by omega), Int.natCast_ediv]
 have b1 : e1 / c < B := Nat.lt_of_le_of_lt (Nat.div_le_self _ _) h2
 have b2 : e2 / c < B := Nat.lt_of_le_of_lt (Nat.div_le_self _ _) h4
 generalize e1 / c = q1 at *
 generalize e2 / c = q2 at *
 have w1 : IntKind.u64.wrap ((q1 : Nat) : Int) = (q1 : Int) := cP b1
 have w2 : IntKind.u64.wrap ((q2 : Nat) : Int) = (q2 : Int) := cP b2
 have x1 : ¬ c = 0 := by omega
 have HT1 := Lib.hid (fun W => timesWord_any n1 q2 h1 b2 W)
 have HT2 := Lib.hid (fun W => timesWord_any n2 q1 h3 b1 W)
 have B1 := Lib.hid b1
 have HHG := Lib.hid hG
 have HE := Lib.hid h4
 have HgB := Lib.hid hgB
 have Hg1 := Lib.hid hg1
 clear b1 b2 hG h4 hgB hg1 h1 h2 h3 o1 o2
 go_enter Tryz.func91, Tryz.ntmps91
 go_wp2_with fail
 obtain ⟨W0, hW0, hb0, ⟨f0, f1, f2, f3⟩, ⟨g0, g1, g2, g3⟩, hz⟩ := box3 w (.bool neg1) (u n1) (u l1) (.pointer none) (.bool neg2) (u n2) (u l2) (.pointer none); rw [← hW0]; clear hW0; have HZ := Lib.hid hz; have HW0 := Lib.hid hb0; have hb0 := Below.refl W0.heap.size W0; clear hz
 go_region_held3 (fun w' => (w'.cell? ⟨w.heap.size, 0, none⟩ = some (.bool neg1) ∧ w'.cell? ⟨w.heap.size, 1, none⟩ = some (u n1) ∧ w'.cell? ⟨w.heap.size, 2, none⟩ = some (u l1) ∧ w'.cell? ⟨w.heap.size, 3, none⟩ = some (.pointer none)) ∧ (w'.cell? ⟨w.heap.size + 1, 0, none⟩ = some (.bool neg2) ∧ w'.cell? ⟨w.heap.size + 1, 1, none⟩ = some (u n2) ∧ w'.cell? ⟨w.heap.size + 1, 2, none⟩ = some (u l2) ∧ w'.cell? ⟨w.heap.size + 1, 3, none⟩ = some (.pointer none))) (go_keep) (first | ((with_reducible refine (HB1.out _).mono ?_); rintro e W1 ⟨rfl, hb⟩; (obtain ⟨_, _, _, _⟩ := cq (b := w.heap.size) hb (by assumption) (by assumption) (by assumption) (by assumption); obtain ⟨_, _, _, _⟩ := cq (b := w.heap.size + 1) hb (by assumption) (by assumption) (by assumption) (by assumption))) | ((with_reducible refine (HB2.out _).mono ?_); rintro e W2 ⟨rfl, hb'⟩; (obtain ⟨_, _, _, _⟩ := cq (b := w.heap.size) hb' (by assumption) (by assumption) (by assumption) (by assumption); obtain ⟨_, _, _, _⟩ := cq (b := w.heap.size + 1) hb' (by assumption) (by assumption) (by assumption) (by assumption))) | ((with_reducible refine (HC1.out _ (cf HW0.out (cf (cI hb0 hb) hb'))).mono ?_); rintro e W3 ⟨rfl, rfl⟩))
 have HBa := Lib.hid (cf (cI hb0 hb) hb')
 clear hb0 hb hb' f0 f1 f2 f3 g0 g1 g2 g3
 go_wp2_with fail
 go_region_held3 (fun w' => (w'.cell? ⟨w.heap.size, 0, none⟩ = some (.bool neg1) ∧ w'.cell? ⟨w.heap.size, 1, none⟩ = some (u n1) ∧ w'.cell? ⟨w.heap.size, 2, none⟩ = some (u l1) ∧ w'.cell? ⟨w.heap.size, 3, none⟩ = some (.pointer none)) ∧ (w'.cell? ⟨w.heap.size + 1, 0, none⟩ = some (.bool neg2) ∧ w'.cell? ⟨w.heap.size + 1, 1, none⟩ = some (u n2) ∧ w'.cell? ⟨w.heap.size + 1, 2, none⟩ = some (u l2) ∧ w'.cell? ⟨w.heap.size + 1, 3, none⟩ = some (.pointer none))) (go_keep) (first | ((with_reducible refine (HB2.out _).mono ?_); rintro e W4 ⟨rfl, hb⟩; (obtain ⟨_, _, _, _⟩ := cq (b := w.heap.size) hb (by assumption) (by assumption) (by assumption) (by assumption); obtain ⟨_, _, _, _⟩ := cq (b := w.heap.size + 1) hb (by assumption) (by assumption) (by assumption) (by assumption))) | ((with_reducible refine (HT1.out _).mono ?_); rintro e W5 ⟨rfl, hb'⟩; (obtain ⟨_, _, _, _⟩ := cq (b := w.heap.size) hb' (by assumption) (by assumption) (by assumption) (by assumption); obtain ⟨_, _, _, _⟩ := cq (b := w.heap.size + 1) hb' (by assumption) (by assumption) (by assumption) (by assumption))))
 have HBb := Lib.hid (cf (cI HBa.out hb) hb')
 clear HBa hb hb'
 have HF1 := Lib.hid (fits (x := n1) (y := q2))
 have HL1 := Lib.hid (prodLo_lt n1 q2)
 generalize cL n1 q2 = left at *
 generalize decide (ja n1 q2 = 0) = fits1 at *
 go_wp2_with fail
 go_region_held3 (fun w' => (w'.cell? ⟨w.heap.size, 0, none⟩ = some (.bool neg1) ∧ w'.cell? ⟨w.heap.size, 1, none⟩ = some (u n1) ∧ w'.cell? ⟨w.heap.size, 2, none⟩ = some (u l1) ∧ w'.cell? ⟨w.heap.size, 3, none⟩ = some (.pointer none)) ∧ (w'.cell? ⟨w.heap.size + 1, 0, none⟩ = some (.bool neg2) ∧ w'.cell? ⟨w.heap.size + 1, 1, none⟩ = some (u n2) ∧ w'.cell? ⟨w.heap.size + 1, 2, none⟩ = some (u l2) ∧ w'.cell? ⟨w.heap.size + 1, 3, none⟩ = some (.pointer none))) (go_keep) (first | ((with_reducible refine (HB1.out _).mono ?_); rintro e W6 ⟨rfl, hb⟩; (obtain ⟨_, _, _, _⟩ := cq (b := w.heap.size) hb (by assumption) (by assumption) (by assumption) (by assumption); obtain ⟨_, _, _, _⟩ := cq (b := w.heap.size + 1) hb (by assumption) (by assumption) (by assumption) (by assumption))) | ((with_reducible refine (HT2.out _).mono ?_); rintro e W7 ⟨rfl, hb'⟩; (obtain ⟨_, _, _, _⟩ := cq (b := w.heap.size) hb' (by assumption) (by assumption) (by assumption) (by assumption); obtain ⟨_, _, _, _⟩ := cq (b := w.heap.size + 1) hb' (by assumption) (by assumption) (by assumption) (by assumption))))
 have HBc := Lib.hid (cf (cI HBb.out hb) hb')
 clear HBb hb hb'
 have HF2 := Lib.hid (fits (x := n2) (y := q1))
 have HL2 := Lib.hid (prodLo_lt n2 q1)
 generalize cL n2 q1 = right at *
 generalize decide (ja n2 q1 = 0) = fits2 at *
 have HA := Lib.hid (fun W => addWords_any neg1 neg2 left right HL1.out HL2.out W)
 go_wp2_with fail
 refine (HA.out _).mono ?_
 rintro e W8 ⟨t, htB, fits3, ht, rfl, hb⟩
 (obtain ⟨_, _, _, _⟩ := cq (b := w.heap.size) hb (by assumption) (by assumption) (by assumption) (by assumption); obtain ⟨_, _, _, _⟩ := cq (b := w.heap.size + 1) hb (by assumption) (by assumption) (by assumption) (by assumption))
 have HBd := Lib.hid (cf HBc.out hb)
 have HtB := Lib.hid htB
 have HF3 := Lib.hid ht
 clear HBc hb HA htB ht
 generalize hsg0 : (addS neg1 left neg2 right).1 = sg0 at *
 have HS0 := Lib.hid hsg0
 clear hsg0
 have hx1 : 0 < Nat.gcd t c := Nat.gcd_pos_of_pos_right _ Hg1.out
 have hxB : Nat.gcd t c < B := Nat.lt_of_le_of_lt (Nat.gcd_le_right _ Hg1.out) HgB.out
 have HC2 := Lib.hid (fun W (hW : Below w.heap.size w W) => commonWord_any t c HtB.out HgB.out W (HHG.out.below hW HHG.out.size))
 obtain ⟨ex, hex⟩ : ∃ ex, ex = Nat.gcd t c := ⟨_, rfl⟩
 rw [← hex] at hx1 hxB HC2
 have HX := Lib.hid hex
 clear hex
 have t3 : Int.tdiv ((t : Nat) : Int) ((ex : Nat) : Int) = ((t / ex : Nat) : Int) := by rw [Int.tdiv_eq_ediv_of_nonneg (by omega), Int.natCast_ediv]
 have t4 : Int.tdiv ((e2 : Nat) : Int) ((ex : Nat) : Int) = ((e2 / ex : Nat) : Int) := by rw [Int.tdiv_eq_ediv_of_nonneg (by omega), Int.natCast_ediv]
 have b3 : t / ex < B := Nat.lt_of_le_of_lt (Nat.div_le_self _ _) HtB.out
 have b4 : e2 / ex < B := Nat.lt_of_le_of_lt (Nat.div_le_self _ _) HE.out
 obtain ⟨num, hnum⟩ : ∃ num, num = t / ex := ⟨_, rfl⟩
 obtain ⟨q5, hq5⟩ : ∃ q5, q5 = e2 / ex := ⟨_, rfl⟩
 rw [← hnum] at t3 b3
 rw [← hq5] at t4 b4
 have d3 : ((t : Nat) : Int) / ((ex : Nat) : Int) = (num : Int) := by rw [hnum, Int.natCast_ediv]
 have HN := Lib.hid hnum
 have HQ5 := Lib.hid hq5
 clear hnum hq5
 have w3 : IntKind.u64.wrap ((num : Nat) : Int) = (num : Int) := cP b3
 have w4 : IntKind.u64.wrap ((q5 : Nat) : Int) = (q5 : Int) := cP b4
 have x2 : ¬ ex = 0 := by omega
 have x3 : ¬ ((ex : Nat) : Int) = 0 := by omega
 have HT3 := Lib.hid (fun W => timesWord_any q1 q5 B1.out b4 W)
 have HB3 := Lib.hid b3
 clear hx1 hxB b3 b4
 go_wp2_with fail
 refine (HC2.out _ (cf HW0.out HBd.out)).mono ?_
 rintro e W9 ⟨rfl, rfl⟩
 go_wp2_with fail
 go_region_held3 (fun w' => (w'.cell? ⟨w.heap.size, 0, none⟩ = some (.bool neg1) ∧ w'.cell? ⟨w.heap.size, 1, none⟩ = some (u n1) ∧ w'.cell? ⟨w.heap.size, 2, none⟩ = some (u l1) ∧ w'.cell? ⟨w.heap.size, 3, none⟩ = some (.pointer none)) ∧ (w'.cell? ⟨w.heap.size + 1, 0, none⟩ = some (.bool neg2) ∧ w'.cell? ⟨w.heap.size + 1, 1, none⟩ = some (u n2) ∧ w'.cell? ⟨w.heap.size + 1, 2, none⟩ = some (u l2) ∧ w'.cell? ⟨w.heap.size + 1, 3, none⟩ = some (.pointer none))) (go_keep) (first | ((with_reducible refine (HB1.out _).mono ?_); rintro e W9 ⟨rfl, hb⟩; (obtain ⟨_, _, _, _⟩ := cq (b := w.heap.size) hb (by assumption) (by assumption) (by assumption) (by assumption); obtain ⟨_, _, _, _⟩ := cq (b := w.heap.size + 1) hb (by assumption) (by assumption) (by assumption) (by assumption))) | ((with_reducible refine (HB2.out _).mono ?_); rintro e W10 ⟨rfl, hb'⟩; (obtain ⟨_, _, _, _⟩ := cq (b := w.heap.size) hb' (by assumption) (by assumption) (by assumption) (by assumption); obtain ⟨_, _, _, _⟩ := cq (b := w.heap.size + 1) hb' (by assumption) (by assumption) (by assumption) (by assumption))) | ((with_reducible refine (HT3.out _).mono ?_); rintro e W11 ⟨rfl, hb''⟩; (obtain ⟨_, _, _, _⟩ := cq (b := w.heap.size) hb'' (by assumption) (by assumption) (by assumption) (by assumption); obtain ⟨_, _, _, _⟩ := cq (b := w.heap.size + 1) hb'' (by assumption) (by assumption) (by assumption) (by assumption))))
 have HBe := Lib.hid (cf (cf (cI HBd.out hb) hb') hb'')
 clear HBd hb hb' hb''
 have HF4 := Lib.hid (fits (x := q1) (y := q5))
 have HL4 := Lib.hid (prodLo_lt q1 q5)
 generalize cL q1 q5 = den at *
 generalize decide (ja q1 q5 = 0) = fits4 at *
 have hok : fits1 = true → fits2 = true → fits3 = true → fits4 = true → NEG = sg0 ∧ NUM = num ∧ DEN = den := by
  intro k1 k2 k3 k4
  have f1 := HF1.out k1
  have f2 := HF2.out k2
  have f3 := HF3.out k3
  have f4 := HF4.out k4
  subst f1 f2
  have f3 := f3.symm
  refine ⟨?_, ?_, ?_⟩
  · rw [HNEG.out, HS0.out]
  · rw [HNUM.out, f3, HN.out, HX.out]
  · rw [HDEN.out, f3, f4, HQ5.out, HX.out]
 have HOK := Lib.hid hok
 clear hok HF1 HF2 HF3 HF4 HN HX HQ5 HS0 HNEG HNUM HDEN HT3 HC2 HT1 HT2
 go_wp2_with fail
 refine (small_any sg0 num den HL4.out _).mono ?_
 rintro e W12 ⟨rfl, hb⟩
 (obtain ⟨_, _, _, _⟩ := cq (b := w.heap.size) hb (by assumption) (by assumption) (by assumption) (by assumption); obtain ⟨_, _, _, _⟩ := cq (b := w.heap.size + 1) hb (by assumption) (by assumption) (by assumption) (by assumption))
 have HBf := Lib.hid (cf HBe.out hb)
 clear HBe hb
 have HD := Lib.hid (difLo_one (d := den) HL4.out)
 generalize hsg : (sg0 && !decide (num = 0)) = sg
 have HSG := Lib.hid hsg
 clear hsg
 generalize difLo den 1 = ll at *
 have hz := HZ.out.below HBf.out (Nat.le_refl _)
 have zf := hz.frozen
 obtain ⟨z0, z1, z2, z3⟩ := hz.cells
 have zf0 := zf 0
 have zf1 := zf 1
 have zf2 := zf 2
 have zf3 := zf 3
 clear zf hz
 go_wp2_with fail
 · rename_i k1 k2 k3
   refine bodyPost_ret (v := .tuple #[lo sg num ll, .bool fits4]) (by simp [results, Tryz.results91, go_sem, z0, z1, z2, z3]) rfl ?_
   refine ⟨sg, num, ll, fits4, rfl, ?_, ?_, js HW0.out HBf.out (by omega) _ _ _ _⟩
   · intro k4 hh
     obtain ⟨e1, e2, e3⟩ := HOK.out (by simpa using k1) (by simpa using k2) (by simpa using k3) k4
     subst e1 e2 e3
     exact ⟨HSG.out.symm, rfl, HD.out hh.2.2⟩
   · intro k4
     obtain ⟨e1, e2, e3⟩ := HOK.out (by simpa using k1) (by simpa using k2) (by simpa using k3) k4
     rw [e2, e3]
     exact ⟨HB3.out, HL4.out⟩
 · refine bodyPost_ret (v := .tuple #[lo sg num ll, .bool false]) (by simp [results, Tryz.results91, go_sem, z0, z1, z2, z3]) rfl ?_
   refine ⟨sg, num, ll, false, rfl, ?_, ?_, js HW0.out HBf.out (by omega) _ _ _ _⟩ <;> intro hok <;> exact absurd hok (by simp)
 · refine bodyPost_ret (v := .tuple #[lo sg num ll, .bool false]) (by simp [results, Tryz.results91, go_sem, z0, z1, z2, z3]) rfl ?_
   refine ⟨sg, num, ll, false, rfl, ?_, ?_, js HW0.out HBf.out (by omega) _ _ _ _⟩ <;> intro hok <;> exact absurd hok (by simp)
 · refine bodyPost_ret (v := .tuple #[lo sg num ll, .bool false]) (by simp [results, Tryz.results91, go_sem, z0, z1, z2, z3]) rfl ?_
   refine ⟨sg, num, ll, false, rfl, ?_, ?_, js HW0.out HBf.out (by omega) _ _ _ _⟩ <;> intro hok <;> exact absurd hok (by simp)
end Go.Proofs.YtccabfblgjcboaaGreatDoor
