/- Package exact, part 3: what its functions answer, as laws on the numbers that their values stand for (QBase NatText QSmall QPlus QWide QOps Without QTimes QSum QRat QAdd QSign QMinus). -/
import Derived.Test.YtojploidgagmgaaGreatDoorJ2
import Derived.Laws.IdiomStrings
import Derived.RangeFuncBox
set_option linter.unusedVariables false
set_option linter.unusedSimpArgs false

/- Numbers in memory: what stands for a rational number. -/
namespace Go.Proofs.YtojploidgagmgaaGreatDoor
open Go Go.RowKit Go.Proofs Lim

/-- The form of a number of one limb each. -/
abbrev lo (neg : Bool) (n l : Nat) : Value := .agg #[.bool neg, u n, u l, .pointer none]
/-- The form of a number that is wide. -/
abbrev wi (neg : Bool) (p : Addr) : Value := .agg #[.bool neg, u 0, u 0, .pointer (some p)]

/-- A numerator with its sign beside it, and a denominator, in memory. -/
inductive Num (w : World) (v : Value) (neg : Bool) (n d : Nat) : Prop
  | low (l : Nat) (hv : v = lo neg n l) (hd : d = l + 1) (hn : n < B) (hdB : d < B)
  | wide (b : Nat) (x y : Value) (hv : v = wi neg ⟨b, 0, none⟩) (hx : w.cell? ⟨b, 0, none⟩ = some x) (hy : w.cell? ⟨b, 1, none⟩ = some y) (h1 : IsNat w x n) (h2 : IsNat w y d) (hB : B ≤ n ∨ B ≤ d) (h0 : 0 < n) (hd : 0 < d)

theorem Num.below {w w' : World} {v : Value} {neg : Bool} {n d : Nat} {k : Nat} (h : Num w v neg n d) (hb : Below k w w') (hk : w.heap.size ≤ k) : Num w' v neg n d := by
  cases h with
  | low l hv hd hn hdB => exact .low l hv hd hn hdB
  | wide b x y hv hx hy h1 h2 hB h0 hd =>
    have hlt := World.block_lt_of_cell? w _ hx
    exact .wide b x y hv ((hb.cell (p := ⟨b, 0, none⟩) (Nat.lt_of_lt_of_le hlt hk)).trans hx) ((hb.cell (p := ⟨b, 1, none⟩) (Nat.lt_of_lt_of_le hlt hk)).trans hy) (h1.below hb hk) (h2.below hb hk) hB h0 hd

/-- A value stands for a rational number. -/
def IsQ (w : World) (v : Value) (r : Rat) : Prop := Num w v (decide (r.num < 0)) r.num.natAbs r.den

theorem IsQ.below {w w' : World} {v : Value} {r : Rat} {k : Nat} (h : IsQ w v r) (hb : Below k w w') (hk : w.heap.size ≤ k) : IsQ w' v r := Num.below h hb hk

/-- A number of at most k limbs above and below. -/
def Siz (r : Rat) (k : Nat) : Prop := r.num.natAbs < B ^ k ∧ r.den < B ^ k

/-- What a call leaves that returns a number: new memory at most. -/
def QNew (w : World) (r : Rat) (e : Ending) (w' : World) : Prop := ∃ v, e = .returned v ∧ IsQ w' v r ∧ Below w.heap.size w w'

/-- A call returns a value, and leaves new memory at most. -/
def Val (w : World) (v : Value) (e : Ending) (w' : World) : Prop := e = .returned v ∧ Below w.heap.size w w'

theorem below1 (w : World) (o : Obj) : Below w.heap.size w (w.alloc o) := (Below.refl _ w).alloc (Nat.le_refl _) o

theorem small_any (neg : Bool) (n d : Nat) (hd : d < B) (w : World) :
    Calls Tryz.prog 93 #[.bool neg, u n, u d] w (Val w (lo (neg && !decide (n = 0)) n (difLo d 1))) := by
  have k0 : IntKind.u64.wrap ((d : Nat) - (1 : Int)) = ((difLo d 1 : Nat) : Int) := by
    have := dif_eq (x := d) (y := 1) hd (by decide)
    have h2 := difLo_lt d 1
    have h3 := difHi_le d 1
    rw [IntKind.wrap_u64]
    generalize difHi d 1 = c at *
    generalize difLo d 1 = b at *
    unfold B at *
    omega
  generalize difLo d 1 = l at *
  have k1 : (((n : Nat) : Int) != 0) = !decide (n = 0) := by rw [Bool.eq_iff_iff]; simp
  go_enter Tryz.func93, Tryz.ntmps93
  go_wp2_with fail
  · rename_i h
    subst h
    refine bodyPost_ret (v := lo (!decide (n = 0)) n l) (by simp [results, Tryz.results93, go_sem]) rfl ?_
    exact ⟨by simp, below1 w _⟩
  · rename_i h
    have h : neg = false := by simpa using h
    subst h
    refine bodyPost_ret (v := lo false n l) (by simp [results, Tryz.results93, go_sem]) rfl ?_
    exact ⟨by simp, below1 w _⟩

theorem bottom_any (neg : Bool) (n l : Nat) (p : Option Addr) (hd : l + 1 < B) (w : World) :
    Calls Tryz.prog 97 #[.agg #[.bool neg, u n, u l, .pointer p]] w (Val w (u (l + 1))) := by
  have k0 : IntKind.u64.wrap ((l : Nat) + (1 : Int)) = ((l + 1 : Nat) : Int) := by
    exact wrap_add (x := l) (y := 1) hd
  go_enter Tryz.func97, Tryz.ntmps97
  go_wp2_with fail
  go_ret
  exact ⟨rfl, below1 w _⟩

theorem timesWord_any (x y : Nat) (hx : x < B) (hy : y < B) (w : World) :
    Calls Tryz.prog 136 #[u x, u y] w (fun e w' => e = .returned (.tuple #[u (prodLo x y), .bool (decide (prodHi x y = 0))]) ∧ Below w.heap.size w w') := by
  go_enter Tryz.func136, Tryz.ntmps136
  go_wp2_with fail
  refine (mul64 x y hx hy w).mono ?_
  rintro e w' ⟨rfl, rfl⟩
  have k0 : (((prodHi x y : Nat) : Int) == 0) = decide (prodHi x y = 0) := by rw [Bool.eq_iff_iff]; simp
  go_wp2_with fail
  refine bodyPost_ret (v := .tuple #[u (prodLo x y), .bool (decide (prodHi x y = 0))]) (by simp [results, Tryz.results136, go_sem]) rfl ?_
  exact ⟨rfl, by first | exact Below.refl _ _ | exact below1 w _⟩

/-- The sum of two naturals with signs: its sign and its size. -/
def addS (a : Bool) (x : Nat) (b : Bool) (y : Nat) : Bool × Nat := if a = b then (a, x + y) else if y ≤ x then (a, x - y) else (b, y - x)

/-- What addWords leaves: a limb, and whether it is the sum's size. -/
def AddWPost (w : World) (neg : Bool) (t : Nat) (e : Ending) (w' : World) : Prop :=
  ∃ s, s < B ∧ ∃ ok : Bool, (ok = true → s = t) ∧ e = .returned (.tuple #[.bool neg, u s, .bool ok]) ∧ Below w.heap.size w w'

attribute [local go_sem] run_add64

theorem addWords_any (a b : Bool) (x y : Nat) (hx : x < B) (hy : y < B) (w : World) :
    Calls Tryz.prog 137 #[.bool a, u x, .bool b, u y] w (AddWPost w (addS a x b y).1 (addS a x b y).2) := by
  have k0 := sum_eq x y
  have k1 := sumHi_le hx hy
  have k2 := sumLo_lt x y
  have K0 := Lib.hid k0
  have k5 : (((sumHi x y : Nat) : Int) == 0) = decide (sumHi x y = 0) := by rw [Bool.eq_iff_iff]; simp
  clear k0
  by_cases hab : a = b
  · subst hab
    go_enter Tryz.func137, Tryz.ntmps137
    go_wp2_with fail
    refine bodyPost_ret (v := .tuple #[.bool a, u (sumLo x y), .bool (decide (sumHi x y = 0))]) (by simp [results, Tryz.results137, go_sem]) rfl ?_
    refine ⟨sumLo x y, k2, decide (sumHi x y = 0), ?_, by simp [addS], by first | exact Below.refl _ _ | exact below1 w _⟩
    intro h
    have h : sumHi x y = 0 := by simpa using h
    have := K0.out
    rw [h] at this
    simp [addS]
    omega
  · have hab' : (a == b) = false := by simpa using hab
    by_cases hc : y ≤ x
    · have k3 : IntKind.u64.wrap ((x : Int) - (y : Int)) = ((x - y : Nat) : Int) := wrap_sub hx hc
      go_enter Tryz.func137, Tryz.ntmps137
      go_wp2_with fail
      refine bodyPost_ret (v := .tuple #[.bool a, u (x - y), .bool true]) (by simp [results, Tryz.results137, go_sem]) rfl ?_
      exact ⟨x - y, by omega, true, by simp [addS, hab, hc], by simp [addS, hab, hc], by first | exact Below.refl _ _ | exact below1 w _⟩
    · have k3 : IntKind.u64.wrap ((y : Int) - (x : Int)) = ((y - x : Nat) : Int) := wrap_sub hy (by omega)
      go_enter Tryz.func137, Tryz.ntmps137
      go_wp2_with fail
      refine bodyPost_ret (v := .tuple #[.bool b, u (y - x), .bool true]) (by simp [results, Tryz.results137, go_sem]) rfl ?_
      exact ⟨y - x, by omega, true, by simp [addS, hab, hc], by simp [addS, hab, hc], by first | exact Below.refl _ _ | exact below1 w _⟩

/-- The four cells of a number's box. -/
theorem boxq {X W : World} {b : Nat} {a0 a1 a2 a3 : Value} (hb : Below X.heap.size X W) (h0 : X.cell? ⟨b, 0, none⟩ = some a0) (h1 : X.cell? ⟨b, 1, none⟩ = some a1) (h2 : X.cell? ⟨b, 2, none⟩ = some a2) (h3 : X.cell? ⟨b, 3, none⟩ = some a3) :
    W.cell? ⟨b, 0, none⟩ = some a0 ∧ W.cell? ⟨b, 1, none⟩ = some a1 ∧ W.cell? ⟨b, 2, none⟩ = some a2 ∧ W.cell? ⟨b, 3, none⟩ = some a3 := by
  have hlt := World.block_lt_of_cell? X _ h0
  exact ⟨(hb.cell (p := ⟨b, 0, none⟩) hlt).trans h0, (hb.cell (p := ⟨b, 1, none⟩) hlt).trans h1, (hb.cell (p := ⟨b, 2, none⟩) hlt).trans h2, (hb.cell (p := ⟨b, 3, none⟩) hlt).trans h3⟩

/-- Two numbers' boxes, as a call lays them for its parameters. -/
theorem box2 (w : World) (a0 a1 a2 a3 b0 b1 b2 b3 : Value) : ∃ W, W = (w.alloc (.cells #[a0, a1, a2, a3] 26)).alloc (.cells #[b0, b1, b2, b3] 26) ∧ Below w.heap.size w W ∧
    (W.cell? ⟨w.heap.size, 0, none⟩ = some a0 ∧ W.cell? ⟨w.heap.size, 1, none⟩ = some a1 ∧ W.cell? ⟨w.heap.size, 2, none⟩ = some a2 ∧ W.cell? ⟨w.heap.size, 3, none⟩ = some a3) ∧
    (W.cell? ⟨w.heap.size + 1, 0, none⟩ = some b0 ∧ W.cell? ⟨w.heap.size + 1, 1, none⟩ = some b1 ∧ W.cell? ⟨w.heap.size + 1, 2, none⟩ = some b2 ∧ W.cell? ⟨w.heap.size + 1, 3, none⟩ = some b3) := by
  refine ⟨_, rfl, (below1 w _).alloc (below1 w _).size _, ?_, ?_⟩
  · have h : ((w.alloc (.cells #[a0, a1, a2, a3] 26)).alloc (.cells #[b0, b1, b2, b3] 26)).heap[w.heap.size]? = some (.cells #[a0, a1, a2, a3] 26) := by
      show ((w.heap.push _).push _)[w.heap.size]? = _
      simp [Array.getElem?_push]
    unfold World.cell?
    rw [h]
    exact ⟨rfl, rfl, rfl, rfl⟩
  · have h : ((w.alloc (.cells #[a0, a1, a2, a3] 26)).alloc (.cells #[b0, b1, b2, b3] 26)).heap[w.heap.size + 1]? = some (.cells #[b0, b1, b2, b3] 26) := by
      show ((w.heap.push _).push _)[w.heap.size + 1]? = _
      rw [Array.getElem?_push, if_pos (by simp)]
    unfold World.cell?
    rw [h]
    exact ⟨rfl, rfl, rfl, rfl⟩

/-- A number's box that may be written. -/
def Box (W : World) (b : Nat) (a0 a1 a2 a3 : Value) : Prop := W.heap[b]? = some (.cells #[a0, a1, a2, a3] 26 (0, 0))

theorem Box.below {W W' : World} {b k : Nat} {a0 a1 a2 a3 : Value} (h : Box W b a0 a1 a2 a3) (hb : Below k W W') (hk : W.heap.size ≤ k) : Box W' b a0 a1 a2 a3 :=
  (hb.block b (Nat.lt_of_lt_of_le (Array.getElem?_eq_some_iff.1 h).1 hk)).trans h

theorem Box.cells {W : World} {b : Nat} {a0 a1 a2 a3 : Value} (h : Box W b a0 a1 a2 a3) :
    W.cell? ⟨b, 0, none⟩ = some a0 ∧ W.cell? ⟨b, 1, none⟩ = some a1 ∧ W.cell? ⟨b, 2, none⟩ = some a2 ∧ W.cell? ⟨b, 3, none⟩ = some a3 := by
  unfold Box at h
  simp [World.cell?, h]

theorem Box.frozen {W : World} {b : Nat} {a0 a1 a2 a3 : Value} (h : Box W b a0 a1 a2 a3) (i : Nat) : W.frozen? ⟨b, i, none⟩ = false := by
  unfold Box at h
  simp [World.frozen?, h]

/-- A result's box. -/
theorem boxz (w : World) : ∃ W, W = w.alloc (.cells #[.bool false, .int .u64 0, .int .u64 0, .pointer none] 26) ∧ Below w.heap.size w W ∧ Box W w.heap.size (.bool false) (.int .u64 0) (.int .u64 0) (.pointer none) ∧ W.heap.size = w.heap.size + 1 :=
  ⟨_, rfl, below1 w _, heap_alloc_new w _, by show (w.heap.push _).size = _; simp⟩

/-- Two numbers' boxes and that of a result. -/
theorem box3 (w : World) (a0 a1 a2 a3 b0 b1 b2 b3 : Value) : ∃ W, W = ((w.alloc (.cells #[a0, a1, a2, a3] 26)).alloc (.cells #[b0, b1, b2, b3] 26)).alloc (.cells #[.bool false, .int .u64 0, .int .u64 0, .pointer none] 26) ∧ Below w.heap.size w W ∧
    (W.cell? ⟨w.heap.size, 0, none⟩ = some a0 ∧ W.cell? ⟨w.heap.size, 1, none⟩ = some a1 ∧ W.cell? ⟨w.heap.size, 2, none⟩ = some a2 ∧ W.cell? ⟨w.heap.size, 3, none⟩ = some a3) ∧
    (W.cell? ⟨w.heap.size + 1, 0, none⟩ = some b0 ∧ W.cell? ⟨w.heap.size + 1, 1, none⟩ = some b1 ∧ W.cell? ⟨w.heap.size + 1, 2, none⟩ = some b2 ∧ W.cell? ⟨w.heap.size + 1, 3, none⟩ = some b3) ∧
    Box W (w.heap.size + 1 + 1) (.bool false) (.int .u64 0) (.int .u64 0) (.pointer none) := by
  obtain ⟨W, hW, hb, hf, hg⟩ := box2 w a0 a1 a2 a3 b0 b1 b2 b3
  rw [← hW]
  have hs : W.heap.size = w.heap.size + 1 + 1 := by
    rw [hW]
    show ((w.heap.push _).push _).size = _
    simp
  have hb2 := below1 W (.cells #[.bool false, .int .u64 0, .int .u64 0, .pointer none] 26)
  refine ⟨_, rfl, hb.trans (hb2.mono hb.size), boxq hb2 hf.1 hf.2.1 hf.2.2.1 hf.2.2.2, boxq hb2 hg.1 hg.2.1 hg.2.2.1 hg.2.2.2, ?_⟩
  rw [← hs]
  exact heap_alloc_new W _

/-- Behind a region that draws, and a call in it. -/
theorem chain {w W0 W1 : World} (h : Below w.heap.size w W0) (k : Below W0.drew.heap.size W0.drew W1) : Below w.heap.size w W1 :=
  h.drew.trans (k.mono h.drew.size)

/-- One more call. -/
theorem chain1 {w W0 W1 : World} (h : Below w.heap.size w W0) (k : Below W0.heap.size W0 W1) : Below w.heap.size w W1 :=
  h.trans (k.mono h.size)

/-- A number's box, as a call lays it for its parameter. -/
theorem box1 (w : World) (a0 a1 a2 a3 : Value) : ∃ W, W = w.alloc (.cells #[a0, a1, a2, a3] 26) ∧ Below w.heap.size w W ∧
    (W.cell? ⟨w.heap.size, 0, none⟩ = some a0 ∧ W.cell? ⟨w.heap.size, 1, none⟩ = some a1 ∧ W.cell? ⟨w.heap.size, 2, none⟩ = some a2 ∧ W.cell? ⟨w.heap.size, 3, none⟩ = some a3) := by
  refine ⟨_, rfl, below1 w _, ?_⟩
  have h : (w.alloc (.cells #[a0, a1, a2, a3] 26)).heap[w.heap.size]? = some (.cells #[a0, a1, a2, a3] 26) := by
    show (w.heap.push _)[w.heap.size]? = _
    simp
  unfold World.cell?
  rw [h]
  exact ⟨rfl, rfl, rfl, rfl⟩

/-- The first of two that is not 0. -/
def firstOf (a c : Int) : Int := if a = 0 then c else a

theorem or_two (a c : Int) (b : Nat) (w : World) (h0 : w.cell? ⟨b, 0, none⟩ = some (.int .i64 a)) (h1 : w.cell? ⟨b, 1, none⟩ = some (.int .i64 c)) :
    Calls Tryz.prog 140 #[.slice (some ⟨b, 0, none⟩) 2 2] w (Val w (.int .i64 (firstOf a c))) := by
  obtain ⟨f, hf⟩ : ∃ f, f = firstOf a c := ⟨_, rfl⟩
  rw [← hf]
  have HF := Lib.hid hf
  clear hf
  go_enter Tryz.func140, Tryz.ntmps140
  go_wp2_with fail
  go_loopw [8] (fun i wr => wr = w ∧ (i = .int .i64 0 ∨ (i = .int .i64 1 ∧ a = 0) ∨ (i = .int .i64 2 ∧ a = 0 ∧ c = 0))) (fun i _ => 2 - (intOf i).toNat)
  case atStart => exact ⟨rfl, .inl rfl⟩
  case round =>
    obtain ⟨rfl, rfl | ⟨rfl, ha⟩ | ⟨rfl, ha, hc⟩⟩ := hrel
    · by_cases ha : a = 0
      · subst ha
        go_wp2_with fail
        go_roundw
        case rel => simp
        case measure => simp [intOf]
      · go_wp2_with fail
        go_ret
        have := HF.out
        rw [firstOf, if_neg ha] at this; rw [this]; exact ⟨rfl, Below.refl _ _⟩
    · subst ha
      by_cases hc : c = 0
      · subst hc
        go_wp2_with fail
        go_roundw
        case rel => simp
        case measure => simp [intOf]
      · go_wp2_with fail
        go_ret
        have := HF.out
        rw [firstOf, if_pos rfl] at this; rw [this]; exact ⟨rfl, Below.refl _ _⟩
    · subst ha hc
      go_wp2_with fail
      go_ret
      have := HF.out
      exact ⟨by rw [this]; rfl, Below.refl _ _⟩

theorem first_cmp (m n : Nat) : firstOf (cmpNat (m / B) (n / B)) (cmpNat (m % B) (n % B)) = cmpNat m n := by
  have h1 := Nat.div_add_mod m B
  have h2 := Nat.div_add_mod n B
  have h3 := Nat.mod_lt m B_pos
  have h4 := Nat.mod_lt n B_pos
  generalize m / B = q at *
  generalize n / B = r at *
  generalize m % B = s at *
  generalize n % B = t at *
  generalize B = b at *
  unfold firstOf cmpNat
  rcases Nat.lt_trichotomy q r with h | h | h
  · have : b * q + b ≤ b * r := by rw [← Nat.mul_succ]; exact Nat.mul_le_mul_left _ h
    have g1 : m < n := by omega
    have g2 : ¬ q = r := by omega
    simp [*]
  · subst h
    simp
    omega
  · have : b * r + b ≤ b * q := by rw [← Nat.mul_succ]; exact Nat.mul_le_mul_left _ h
    have g1 : n < m := by omega
    have g2 : ¬ q < r := by omega
    have g3 : ¬ m < n := by omega
    simp [*]

/-- The order of two fractions by their products across. -/
theorem compareSmall_any (neg1 neg2 : Bool) (n1 l1 n2 l2 : Nat) (h1 : n1 < B) (h2 : l1 + 1 < B) (h3 : n2 < B) (h4 : l2 + 1 < B) (w : World) :
    Calls Tryz.prog 104 #[lo neg1 n1 l1, lo neg2 n2 l2] w (Val w (.int .i64 (cmpNat (n1 * (l2 + 1)) (n2 * (l1 + 1))))) := by
  have HB2 := Lib.hid (fun W => bottom_any neg2 n2 l2 none h4 W)
  have HB1 := Lib.hid (fun W => bottom_any neg1 n1 l1 none h2 W)
  have HM1 := Lib.hid (fun W => mul64 n1 (l2 + 1) h1 h4 W)
  have HM2 := Lib.hid (fun W => mul64 n2 (l1 + 1) h3 h2 W)
  go_enter Tryz.func104, Tryz.ntmps104
  go_wp2_with fail
  obtain ⟨W0, hW0, hb0, ⟨f0, f1, f2, f3⟩, ⟨g0, g1, g2, g3⟩⟩ := box2 w (.bool neg1) (u n1) (u l1) (.pointer none) (.bool neg2) (u n2) (u l2) (.pointer none); rw [← hW0]; clear hW0
  go_region_held3 (fun w' => (w'.cell? ⟨w.heap.size, 0, none⟩ = some (.bool neg1) ∧ w'.cell? ⟨w.heap.size, 1, none⟩ = some (u n1) ∧ w'.cell? ⟨w.heap.size, 2, none⟩ = some (u l1) ∧ w'.cell? ⟨w.heap.size, 3, none⟩ = some (.pointer none)) ∧ (w'.cell? ⟨w.heap.size + 1, 0, none⟩ = some (.bool neg2) ∧ w'.cell? ⟨w.heap.size + 1, 1, none⟩ = some (u n2) ∧ w'.cell? ⟨w.heap.size + 1, 2, none⟩ = some (u l2) ∧ w'.cell? ⟨w.heap.size + 1, 3, none⟩ = some (.pointer none))) (go_keep) (first | ((with_reducible refine (HB2.out _).mono ?_); rintro e W1 ⟨rfl, hb⟩; (obtain ⟨_, _, _, _⟩ := boxq (b := w.heap.size) hb (by assumption) (by assumption) (by assumption) (by assumption); obtain ⟨_, _, _, _⟩ := boxq (b := w.heap.size + 1) hb (by assumption) (by assumption) (by assumption) (by assumption))) | ((with_reducible refine (HM1.out _).mono ?_); rintro e W2 ⟨rfl, rfl⟩))
  have HBa := Lib.hid (chain hb0 hb)
  clear hb0 hb
  have hfin : firstOf (cmpNat (prodHi n1 (l2 + 1)) (prodHi n2 (l1 + 1))) (cmpNat (prodLo n1 (l2 + 1)) (prodLo n2 (l1 + 1))) = cmpNat (n1 * (l2 + 1)) (n2 * (l1 + 1)) := first_cmp _ _
  have HFin := Lib.hid hfin
  clear hfin
  generalize prodHi n1 (l2 + 1) = hi1 at *
  generalize prodLo n1 (l2 + 1) = lo1 at *
  go_wp2_with fail
  go_region_held3 (fun w' => (w'.cell? ⟨w.heap.size, 0, none⟩ = some (.bool neg1) ∧ w'.cell? ⟨w.heap.size, 1, none⟩ = some (u n1) ∧ w'.cell? ⟨w.heap.size, 2, none⟩ = some (u l1) ∧ w'.cell? ⟨w.heap.size, 3, none⟩ = some (.pointer none)) ∧ (w'.cell? ⟨w.heap.size + 1, 0, none⟩ = some (.bool neg2) ∧ w'.cell? ⟨w.heap.size + 1, 1, none⟩ = some (u n2) ∧ w'.cell? ⟨w.heap.size + 1, 2, none⟩ = some (u l2) ∧ w'.cell? ⟨w.heap.size + 1, 3, none⟩ = some (.pointer none))) (go_keep) (first | ((with_reducible refine (HB1.out _).mono ?_); rintro e W3 ⟨rfl, hb⟩; (obtain ⟨_, _, _, _⟩ := boxq (b := w.heap.size) hb (by assumption) (by assumption) (by assumption) (by assumption); obtain ⟨_, _, _, _⟩ := boxq (b := w.heap.size + 1) hb (by assumption) (by assumption) (by assumption) (by assumption))) | ((with_reducible refine (HM2.out _).mono ?_); rintro e W4 ⟨rfl, rfl⟩))
  have HBb := Lib.hid (chain HBa.out hb)
  clear HBa hb
  generalize prodHi n2 (l1 + 1) = hi2 at *
  generalize prodLo n2 (l1 + 1) = lo2 at *
  go_wp2_with fail
  refine (compare_u64 hi1 hi2 _).mono ?_
  rintro e W5 ⟨rfl, rfl⟩
  go_wp2_with fail
  refine (compare_u64 lo1 lo2 _).mono ?_
  rintro e W6 ⟨rfl, rfl⟩
  go_wp2_with fail
  refine (or_two (cmpNat hi1 hi2) (cmpNat lo1 lo2) W3.heap.size _ (World.cell?_alloc_new ..) (World.cell?_alloc_new ..)).mono ?_
  rintro e W7 ⟨rfl, hb7⟩
  go_wp2_with fail
  go_ret
  rw [HFin.out]
  refine ⟨rfl, HBb.out.trans ((below1 W3 _).trans (hb7.mono (below1 W3 _).size) |>.mono HBb.out.size)⟩

end Go.Proofs.YtojploidgagmgaaGreatDoor

/- natural.text: the decimal text of a natural. -/
namespace Go.Proofs.YtojploidgagmgaaGreatDoor
open Go Go.RowKit Go.Proofs Lim

/-- A byte as a value. -/
abbrev b8 (c : UInt8) : Value := .int .u8 (c.toNat : Int)
/-- Bytes as a string. -/
abbrev str (l : List UInt8) : Value := .string ⟨l.toArray⟩

/-- Block b is an array that begins with bytes: nothing of it is frozen. -/
def BBlk (w : World) (b : Nat) (l : List UInt8) : Prop := ∃ T : List Value, w.heap[b]? = some (.cells (l.map b8 ++ T).toArray 5 (0, 0))

theorem BBlk.lt {w : World} {b : Nat} {l : List UInt8} (h : BBlk w b l) : b < w.heap.size := let ⟨_, h⟩ := h; (Array.getElem?_eq_some_iff.1 h).1
theorem BBlk.cell {w : World} {b : Nat} {l : List UInt8} (h : BBlk w b l) (i : Nat) (hi : i < l.length) : w.cell? ⟨b, i, none⟩ = some (b8 l[i]) := by
  obtain ⟨T, h⟩ := h
  simp only [World.cell?, h]
  simp [hi, List.getElem?_append_left]
theorem BBlk.frozen {w : World} {b : Nat} {l : List UInt8} (h : BBlk w b l) (i : Nat) : w.frozen? ⟨b, i, none⟩ = false := by
  obtain ⟨T, h⟩ := h
  simp only [World.frozen?, h]
  simp
theorem BBlk.set {w : World} {b : Nat} {l : List UInt8} (h : BBlk w b l) (i : Nat) (c : UInt8) (hi : i < l.length) : BBlk (w.setCell ⟨b, i, none⟩ (b8 c)) b (l.set i c) := by
  obtain ⟨T, h⟩ := h
  refine ⟨T, ?_⟩
  simp only [World.setCell, Array.getElem?_modify]
  simp [h, List.map_set, List.set_append_left, hi]
theorem BBlk.of_block {w w' : World} {b : Nat} {l : List UInt8} (h : BBlk w b l) (hb : w'.heap[b]? = w.heap[b]?) : BBlk w' b l := let ⟨T, h⟩ := h; ⟨T, by rw [hb, h]⟩

theorem Boxed.of_block {W W' : World} {B : Nat} {t : TypeId} {v : Value} (h : Boxed W B t v) (hb : W'.heap[B]? = W.heap[B]?) : Boxed W' B t v := hb.trans h

theorem made_bytes (n : Nat) : (madeCells #[Value.int .u8 0] n).toList = (List.replicate n (0 : UInt8)).map b8 := by
  have h : (fun x => (#[Value.int .u8 0] : Array Value)[x % 1]!) = fun _ => b8 0 := by funext x; simp [Nat.mod_one]
  show ((Array.range n).map (fun x => (#[Value.int .u8 0] : Array Value)[x % 1]!)).toList = _
  rw [h]
  simp [List.map_const']

theorem info_u8 : (Tryz.prog.info? 5).map (fun i => (i.zero, i.size, i.bytes)) = some (some (.int .u8 0), 1, 1) := by kernel_rfl

/-- What make leaves: zero bytes in a block of their own. -/
theorem made_bblk {w w1 : World} {n : Nat} (hown : w1.ownsRow w.heap.size 5 1 (.slice (some ⟨w.heap.size, 0, none⟩) n n) n (madeCells #[Value.int .u8 0] n).toList)
    (hgrow : w.grownBy w1 none) : BBlk w1 w.heap.size (List.replicate n 0) ∧ Below w.heap.size w w1 := by
  rw [made_bytes] at hown
  obtain ⟨h1, ⟨h2, _⟩ | ⟨g, cap, cur, hv, hb, hg, hn, hm, hs, ht⟩⟩ := hown
  · cases h2
  · injection hv with hv1 hv2 hv3
    injection hv1 with hv1
    injection hv1 with hv1
    subst hv1
    refine ⟨⟨cur.toList.drop (n * 1), ?_⟩, (Below.refl _ w).grown hgrow (Nat.le_refl _) (by intro k hk; cases hk)⟩
    rw [hg, ← ht, List.take_append_drop]

theorem set_digit (j : Nat) (r : List UInt8) (c : UInt8) : (List.replicate (j + 1) (0 : UInt8) ++ r).set j c = List.replicate j 0 ++ (c :: r) := by
  rw [List.replicate_succ', List.append_assoc]
  rw [List.set_append_right _ _ (by simp)]
  simp

/-- The digits that have come, as the text so far. -/
def soFar (pre : List Nat) : List UInt8 := (pre.map dbyte).reverse

theorem soFar_snoc (pre : List Nat) (d : Nat) : soFar (pre ++ [d]) = dbyte d :: soFar pre := by unfold soFar; simp
theorem soFar_len (pre : List Nat) : (soFar pre).length = pre.length := by unfold soFar; simp

theorem dbyte_b8 {d : Nat} (h : d < 10) : dval8 d = b8 (dbyte d) := by
  unfold dval8 b8
  rw [dbyte_toNat h]
  congr 1

/-- What a call leaves that returns a string. -/
def StrNew (w : World) (l : List UInt8) (e : Ending) (w' : World) : Prop := e = .returned (str l) ∧ Below w.heap.size w w'

theorem digits_call (v : Value) (n : Nat) (w : World) (h : IsNat w v n) :
    Calls Tryz.prog 133 #[v] w (fun e w' => e = .returned (.func (.func 152) #[] #[.pointer (some ⟨w.heap.size, 0, none⟩)]) ∧ w' = w.alloc (.cells #[v] 117)) := by
  obtain ⟨xs, ⟨⟨xa, xc, rfl, _⟩, _⟩, _⟩ := h
  go_enter Tryz.func133, Tryz.ntmps133
  go_wp2_with fail
  go_ret
  exact ⟨rfl, rfl⟩

theorem text_zero (v : Value) (w : World) (h : IsNat w v 0) : Calls Tryz.prog 92 #[v] w (StrNew w (ntext 0)) := by
  obtain ⟨ao, l, c, rfl, hl, hz, hB⟩ := h.form
  have hl0 : l = 0 := hz.2 rfl
  subst hl0
  have e : ntext 0 = [48] := rfl
  rw [e]
  clear h
  go_enter Tryz.func92, Tryz.ntmps92
  go_wp2_with fail
  go_ret
  exact ⟨rfl, Below.refl _ _⟩

theorem digits_len_le {n k m : Nat} (hk : n < B ^ k) (hm : k = m) : (digs n).length ≤ 20 * m := by
  subst hm
  refine digs_len (Nat.lt_of_lt_of_le hk ?_)
  rw [Nat.pow_mul]
  exact Nat.pow_le_pow_left (by decide) k

/-- What the loop of text knows. -/
def TextInv (w : World) (bt N K : Nat) (pre : List Nat) (W : World) : Prop :=
  BBlk W w.heap.size (List.replicate (K - pre.length) 0 ++ soFar pre) ∧ Boxed W bt 110 (.slice (some ⟨w.heap.size, 0, none⟩) K K) ∧
    Boxed W (bt + 1) 3 (.int .i64 ((K - pre.length : Nat) : Int)) ∧ Below w.heap.size w W ∧ pre <+: digs N

theorem TextInv.lies (w : World) (bt N K B : Nat) (hB : w.heap.size < bt) (h2 : bt + 1 < B) : Lies B (TextInv w bt N K) := by
  rintro pre A C ⟨h1, hx, h3, h4, h5⟩ hb
  exact ⟨h1.of_block (hb.block _ (by omega)), Boxed.of_block hx (hb.block _ (by omega)), Boxed.of_block h3 (hb.block _ (by omega)), h4.trans (hb.mono (by omega)), h5⟩

theorem Keep.setCell (m : Nat) (A : World) (b o : Nat) (v : Value) (h : b < m) : Keep m A (A.setCell ⟨b, o, none⟩ v) :=
  ⟨by simp [World.setCell], fun k hk _ => Below.heap_setCell _ _ _ _ (by show k ≠ b; omega)⟩

theorem TextInv.step {w W : World} {bt N K j : Nat} {pre : List Nat} {d : Nat} (h : TextInv w bt N K pre W) (hb : w.heap.size < bt) (hj : K - pre.length = j + 1) (hd : d < 10) (hp : (pre ++ [d]) <+: digs N) :
    TextInv w bt N K (pre ++ [d]) ((W.setCell ⟨bt + 1, 0, none⟩ (.int .i64 (j : Int))).setCell ⟨w.heap.size, j, none⟩ (dval8 d)) := by
  obtain ⟨h1, h2, h3, h4, h5⟩ := h
  have e1 : K - (pre ++ [d]).length = j := by rw [List.length_append, List.length_singleton]; omega
  have o1 : Only (bt + 1) W (W.setCell ⟨bt + 1, 0, none⟩ (.int .i64 (j : Int))) := (Only.refl _ W).set 0 _
  have o2 : Only w.heap.size (W.setCell ⟨bt + 1, 0, none⟩ (.int .i64 (j : Int))) ((W.setCell ⟨bt + 1, 0, none⟩ (.int .i64 (j : Int))).setCell ⟨w.heap.size, j, none⟩ (dval8 d)) := (Only.refl _ _).set j _
  refine ⟨?_, ?_, ?_, ?_, hp⟩
  · have := BBlk.set (h1.of_block (o1.block w.heap.size (by omega))) j (dbyte d) (by rw [hj]; simp; omega)
    rw [← dbyte_b8 hd, hj, set_digit] at this
    rw [e1, soFar_snoc]
    exact this
  · exact Boxed.of_block (Boxed.of_block h2 (o1.block bt (by omega))) (o2.block bt (by omega))
  · rw [e1]
    exact Boxed.of_block (Boxed.set _ h3) (o2.block (bt + 1) (by omega))
  · exact (h4.trans (o1.below (by omega))).trans (o2.below (Nat.le_refl _))

attribute [local go_sem] Oper.semAt_some

set_option maxRecDepth 100000 in
set_option maxHeartbeats 2000000 in
theorem text_pos (v : Value) (N k : Nat) (w : World) (h : IsNat w v N) (h0 : 0 < N) (hk : N < B ^ k) (hk2 : (k : Int) ≤ 1073741824) : Calls Tryz.prog 92 #[v] w (StrNew w (ntext N)) := by
  have h' := h
  obtain ⟨xs, ⟨⟨xa, xc, rfl, _, _, _⟩, ok⟩, ht, hval⟩ := h'
  have hl := IsNat.len ht hval hk
  have hx0 : 0 < xs.length := by
    rcases xs with _ | ⟨x, xs⟩
    · simp [val] at hval; omega
    · simp
  have hdl : (digs N).length ≤ 20 * xs.length := digits_len_le (k := xs.length) (by rw [← hval]; exact val_lt ok) rfl
  obtain ⟨i0, hi, hz0, hz1, hz2⟩ := info_parts info_u8
  obtain ⟨w1, hmk, hown, hgrow⟩ := run_make_full (P := Tryz.prog) w w.heap.size 110 5 i0 (.int .u8 0) 1 Tryz.underlying110 hi hz0 hz1 .i64 .i64 (20 * xs.length) (by rw [hz2]; omega) (by unfold maxLen; omega) (Nat.le_refl _)
  have hblk := made_bblk (by rw [Nat.mul_one] at hown; exact hown) hgrow
  have hcast : ((20 * xs.length : Nat) : Int) = 20 * (xs.length : Int) := by omega
  rw [hcast] at hmk
  have e0 : (((xs.length : Nat) : Int) == 0) = false := by rw [beq_eq_false_iff_ne]; omega
  obtain ⟨K, hKdef⟩ : ∃ K, K = 20 * xs.length := ⟨_, rfl⟩
  rw [← hKdef] at hmk hblk hdl
  obtain ⟨hB1, hbel1⟩ := hblk
  have HB1 := Lib.hid hB1
  have HBel1 := Lib.hid hbel1
  have HH := Lib.hid h
  have HK := Lib.hid hKdef
  have HDL := Lib.hid hdl
  have HXL := Lib.hid hl
  have HNk := Lib.hid hk
  have hl30 : (xs.length : Int) ≤ 1073741824 := by omega
  have hK30 : (K : Int) ≤ 21474836480 := by omega
  clear hown hgrow hB1 hbel1 h hKdef hdl hcast hi hz0 hz1 hz2 ht hval ok hl hk
  refine callsIn_wide (n := 3) |>.1 ?_
  refine callsIn_of_wp_marks Tryz.func92 rfl trivial ?_ rfl
  simp only [Tryz.ntmps92, List.size_toArray, List.length_cons, List.length_nil, Nat.reduceAdd, Nat.reduceSub, Array.replicate_succ, Array.replicate_zero, List.push_toArray, List.append_toArray, List.nil_append, List.cons_append]
  gi_wp2
  have hbt : w.heap.size < w1.heap.size := HB1.out.lt
  have hT1 := Boxed.new w1 110 (.slice (some ⟨w.heap.size, 0, none⟩) K K)
  have hS1 := Boxed.new (w1.alloc (.cells #[.slice (some ⟨w.heap.size, 0, none⟩) K K] 110)) 3 (.int .i64 (K : Int))
  rw [World.size_alloc] at hS1
  have hI : TextInv w w1.heap.size N K [] ((w1.alloc (.cells #[.slice (some ⟨w.heap.size, 0, none⟩) K K] 110)).alloc (.cells #[.int .i64 (K : Int)] 3)) := by
    have b1 := below1 w1 (.cells #[.slice (some ⟨w.heap.size, 0, none⟩) K K] 110)
    have b2 := below1 (w1.alloc (.cells #[.slice (some ⟨w.heap.size, 0, none⟩) K K] 110)) (.cells #[.int .i64 (K : Int)] 3)
    have b3 := chain1 b1 b2
    refine ⟨?_, hT1.alloc _, ?_, chain1 HBel1.out b3, List.nil_prefix⟩
    · have : BBlk w1 w.heap.size (List.replicate (K - ([] : List Nat).length) 0 ++ soFar []) := by simpa [soFar] using HB1.out
      exact this.of_block (b3.block _ hbt)
    · simpa using hS1
  have hs2 : ((w1.alloc (.cells #[.slice (some ⟨w.heap.size, 0, none⟩) K K] 110)).alloc (.cells #[.int .i64 (K : Int)] 3)).heap.size = w1.heap.size + 1 + 1 := by rw [World.size_alloc, World.size_alloc]
  obtain ⟨W2, hW2⟩ : ∃ W2, (w1.alloc (.cells #[.slice (some ⟨w.heap.size, 0, none⟩) K K] 110)).alloc (.cells #[.int .i64 (K : Int)] 3) = W2 := ⟨_, rfl⟩
  rw [hW2] at hI hs2 ⊢
  have HI := Lib.hid hI
  have HS2 := Lib.hid hs2
  have HBt := Lib.hid hbt
  clear hW2 hI hs2 hT1 hS1 hmk hbt
  have hN2 := HH.out.below HI.out.2.2.2.1 (Nat.le_refl _)
  refine ⟨trivial, (callsW (digits_call _ N W2 hN2)).mono ?_⟩
  rintro e W3 ⟨rfl, rfl⟩
  have hI3 := TextInv.lies w w1.heap.size N K W2.heap.size HBt.out (by rw [HS2.out]; omega) _ _ _ HI.out (below1 W2 (.cells #[.slice xa xs.length xc] 117))
  have hc3 : (W2.alloc (.cells #[.slice xa xs.length xc] 117)).cell? ⟨W2.heap.size, 0, none⟩ = some (.slice xa xs.length xc) := World.cell?_alloc_new ..
  have hN3 := hN2.below (below1 W2 (.cells #[.slice xa xs.length xc] 117)) (Nat.le_refl _)
  have hs3 : (W2.alloc (.cells #[.slice xa xs.length xc] 117)).heap.size = w1.heap.size + 1 + 1 + 1 := by rw [World.size_alloc, HS2.out]
  rw [HS2.out] at hc3 ⊢
  obtain ⟨W3, hW3⟩ : ∃ W3, W2.alloc (.cells #[.slice xa xs.length xc] 117) = W3 := ⟨_, rfl⟩
  rw [hW3] at hI3 hc3 hN3 hs3 ⊢
  have HI3 := Lib.hid hI3
  have HN3 := Lib.hid hN3
  have HC3 := Lib.hid hc3
  have HS3 := Lib.hid hs3
  clear hW3 hI3 hN3 hc3 hs3 hN2 HI HS2
  generalize w1.heap.size = bt at *
  gi_wp2
  refine wpIn_rangeFunc_cells (w0 := W3) rfl (by decide) (gf := 152) (lb := #[.pointer (some ⟨bt + 1 + 1, 0, none⟩)]) rfl trivial (enters_of Tryz.func152 (by kernel_rfl) rfl)
    (digits_own (3 - 1) (by decide) (bt + 1 + 1) _ N k W3 HC3.out HN3.out h0 HNk.out hk2) (Below.refl _ _) rfl (TextInv w bt N K) (TextInv.lies w bt N K W3.heap.size HBt.out (by rw [HS3.out]; omega)) HI3.out
    (fun d => { tmps := #[.slice xa xs.length xc, undef, .string { data := #[] }, .pointer (some ⟨bt, 0, none⟩), .pointer (some ⟨bt + 1, 0, none⟩), dval8 d, .slice xa xs.length xc, .int .i64 (xs.length : Int), .bool false, .slice xa xs.length xc, .int .i64 (xs.length : Int), .int .i64 (20 * (xs.length : Int)), .slice (some ⟨w.heap.size, 0, none⟩) K K, .slice (some ⟨w.heap.size, 0, none⟩) K K, .int .i64 (K : Int), .slice xa xs.length xc, .func (.func 152) #[] #[.pointer (some ⟨bt + 1 + 1, 0, none⟩)], dval8 d, undef, undef, undef, undef, undef, undef, undef, undef, undef, undef], defers := [] }) ?assign ?body ?done
  case assign =>
    intro l d W K' hK'
    gi_wp2
    exact hK'
  case body =>
    intro l pre d W hI hok hsz
    have hlen : pre.length + 1 ≤ K := by
      have h1 := List.IsPrefix.length_le hok
      rw [List.length_append, List.length_singleton] at h1
      have := HDL.out
      omega
    obtain ⟨j, hj⟩ : ∃ j, K - pre.length = j + 1 := ⟨K - pre.length - 1, by omega⟩
    have hjK : (j : Int) < (K : Int) := by omega
    have hd10 : d < 10 := digs_lt N d (hok.subset (by simp))
    have HStep := Lib.hid (hI.step HBt.out hj hd10 hok)
    obtain ⟨h1, h2, h3, h4, h5⟩ := hI
    rw [hj] at h1 h3
    have c1 := h1.cell j (by simp; omega)
    have f1 := h1.frozen j
    have c2 := h2.cell
    have c3 : W.cell? ⟨bt + 1, 0, none⟩ = some (.int .i64 ((j : Int) + 1)) := h3.cell
    have f3 := h3.frozen
    have hbt := HBt.out
    have m1 : ¬ w.heap.size = bt + 1 := by omega
    have m2 : ¬ bt + 1 = w.heap.size := by omega
    have m3 : ¬ bt = bt + 1 := by omega
    have m4 : ¬ bt + 1 = bt := by omega
    have hW3 : bt + 1 < W3.heap.size := by rw [HS3.out]; omega
    have HK1 := Lib.hid (((Keep.setCell W3.heap.size W (bt + 1) 0 (.int .i64 (j : Int)) hW3).trans (Keep.setCell W3.heap.size _ w.heap.size j (dval8 d) (by omega))))
    clear h1 h2 h3 h4 h5 hok hj hlen hsz hW3 hd10
    gi_wp2
    exact ⟨HK1.out, HStep.out⟩
  case done =>
    intro ys W hS hI hlt hD
    subst hS
    obtain ⟨h1, h2, h3, h4, h5⟩ := hI
    have hso : soFar (digs N) = ntext N := by unfold soFar ntext; rw [if_neg (by omega)]
    rw [hso] at h1
    have hnl : (ntext N).length = (digs N).length := by rw [← hso, soFar_len]
    have hdl := HDL.out
    have hd0 : 0 < (digs N).length := by rw [digs_pos (by omega)]; simp
    obtain ⟨s, hs⟩ : ∃ s, s = K - (digs N).length := ⟨_, rfl⟩
    rw [← hs] at h1 h3
    have hlK : (ntext N).length = K - s := by omega
    have hsK : (s : Int) < (K : Int) := by omega
    have hsK1 : (s : Int) ≤ (K : Int) := by omega
    have hns : ¬ K = s := by omega
    have hconv := fun cap => run_convert_bytes_back (P := Tryz.prog) W 110 9 5 ⟨w.heap.size, s, none⟩ cap (ntext N) Tryz.underlying110 Tryz.underlying5 Tryz.underlying9 (fun j hj => by
      rw [Addr.add_lit, h1.cell (s + j) (by simp; omega)]
      have e : (List.replicate s (0 : UInt8) ++ ntext N)[s + j]'(by simp; omega) = (ntext N)[j] := by
        rw [List.getElem_append_right (by simp)]
        simp
      rw [e])
    rw [hlK] at hconv
    have hconv := hconv (K - s)
    have c2 := h2.cell
    have c3 : W.cell? ⟨bt + 1, 0, none⟩ = some (.int .i64 (s : Int)) := h3.cell
    have HH4 := Lib.hid h4
    have HD := Lib.hid hD
    have HSz := Lib.hid hlt
    clear h1 h2 h3 h4 h5 hso hnl hdl hd0 hs hlK hD hlt
    gi_wp2
    refine ⟨by simp, .inl ⟨_, _, rfl, run_takeDeferred HD.out, ?_⟩⟩
    refine ⟨_, results_tmp rfl _ _ _, rfl, HH4.out.trans (below_putObj _ _ ?_)⟩
    have := HBt.out
    rw [HS3.out]
    omega

theorem text_any (v : Value) (N k : Nat) (w : World) (h : IsNat w v N) (hk : N < B ^ k) (hk2 : (k : Int) ≤ 1073741824) : Calls Tryz.prog 92 #[v] w (StrNew w (ntext N)) := by
  rcases Nat.eq_zero_or_pos N with h0 | h0
  · subst h0; exact text_zero v w h
  · exact text_pos v N k w h h0 hk hk2

end Go.Proofs.YtojploidgagmgaaGreatDoor

/- plusSmall and timesSmall: sums and products of numbers of one limb each. -/
namespace Go.Proofs.YtojploidgagmgaaGreatDoor
open Go Go.RowKit Go.Proofs Lim

/-- What an operation on small numbers leaves: if it fits, the number of one limb each. -/
def SmallPost (w : World) (neg : Bool) (num den : Nat) (e : Ending) (w' : World) : Prop :=
  ∃ a b c, ∃ ok : Bool, e = .returned (.tuple #[lo a b c, .bool ok]) ∧ (ok = true → num < B ∧ den < B ∧ 0 < den → a = (neg && !decide (num = 0)) ∧ b = num ∧ c + 1 = den) ∧ (ok = true → num < B ∧ den < B) ∧ Below w.heap.size w w'

/-- The four stores of a number into its box. -/
theorem store4 {w W0 W : World} {b : Nat} (h0 : Below w.heap.size w W0) (h : Below W0.heap.size W0 W) (hb : w.heap.size ≤ b) (a0 a1 a2 a3 : Value) :
    Below w.heap.size w ((((W.setCell ⟨b, 0, none⟩ a0).setCell ⟨b, 1, none⟩ a1).setCell ⟨b, 2, none⟩ a2).setCell ⟨b, 3, none⟩ a3) :=
  (h0.trans (h.mono h0.size)).trans (((((Only.refl b W).set 0 a0).set 1 a1).set 2 a2).set 3 a3 |>.below hb)

theorem difLo_one {d : Nat} (hd : d < B) (h0 : 0 < d) : difLo d 1 + 1 = d := by
  have := dif_eq (x := d) (y := 1) hd (by decide)
  have h2 : difHi d 1 = 0 := by rw [difHi, if_neg (by omega)]
  rw [h2] at this
  omega

theorem fits {x y : Nat} (h : decide (prodHi x y = 0) = true) : prodLo x y = x * y := by
  have h : prodHi x y = 0 := by simpa using h
  have := prod_eq x y
  rw [h, Nat.mul_zero, Nat.add_zero] at this
  exact this

set_option maxHeartbeats 1600000 in
theorem timesSmall_any (neg1 neg2 : Bool) (n1 l1 n2 l2 : Nat) (h1 : n1 < B) (h2 : l1 + 1 < B) (h3 : n2 < B) (h4 : l2 + 1 < B) (w : World) (hG : Gr w) :
    Calls Tryz.prog 103 #[lo neg1 n1 l1, lo neg2 n2 l2] w (SmallPost w (neg1 != neg2) (n1 / Nat.gcd n1 (l2 + 1) * (n2 / Nat.gcd n2 (l1 + 1))) ((l1 + 1) / Nat.gcd n2 (l1 + 1) * ((l2 + 1) / Nat.gcd n1 (l2 + 1)))) := by
  have HB2 := Lib.hid (fun W => bottom_any neg2 n2 l2 none h4 W)
  have HB1 := Lib.hid (fun W => bottom_any neg1 n1 l1 none h2 W)
  have HC1 := Lib.hid (fun W (hW : Below w.heap.size w W) => commonWord_any n1 (l2 + 1) h1 h4 W (hG.below hW hG.size))
  have HC2 := Lib.hid (fun W (hW : Below w.heap.size w W) => commonWord_any n2 (l1 + 1) h3 h2 W (hG.below hW hG.size))
  have hg1 : 0 < Nat.gcd n1 (l2 + 1) := Nat.gcd_pos_of_pos_right _ (by omega)
  have hg2 : 0 < Nat.gcd n2 (l1 + 1) := Nat.gcd_pos_of_pos_right _ (by omega)
  clear hG
  have o1 : 0 < l1 + 1 := by omega
  have o2 : 0 < l2 + 1 := by omega
  generalize l1 + 1 = e1 at *
  generalize l2 + 1 = e2 at *
  generalize Nat.gcd n1 e2 = c1 at *
  generalize Nat.gcd n2 e1 = c2 at *
  have d1 : ((n1 : Nat) : Int) / ((c1 : Nat) : Int) = ((n1 / c1 : Nat) : Int) := by rw [Int.natCast_ediv]
  have d2 : ((n2 : Nat) : Int) / ((c2 : Nat) : Int) = ((n2 / c2 : Nat) : Int) := by rw [Int.natCast_ediv]
  have d3 : ((e1 : Nat) : Int) / ((c2 : Nat) : Int) = ((e1 / c2 : Nat) : Int) := by rw [Int.natCast_ediv]
  have d4 : ((e2 : Nat) : Int) / ((c1 : Nat) : Int) = ((e2 / c1 : Nat) : Int) := by rw [Int.natCast_ediv]
  have t1 : Int.tdiv ((n1 : Nat) : Int) ((c1 : Nat) : Int) = ((n1 / c1 : Nat) : Int) := by rw [Int.tdiv_eq_ediv_of_nonneg (by omega), Int.natCast_ediv]
  have t2 : Int.tdiv ((n2 : Nat) : Int) ((c2 : Nat) : Int) = ((n2 / c2 : Nat) : Int) := by rw [Int.tdiv_eq_ediv_of_nonneg (by omega), Int.natCast_ediv]
  have t3 : Int.tdiv ((e1 : Nat) : Int) ((c2 : Nat) : Int) = ((e1 / c2 : Nat) : Int) := by rw [Int.tdiv_eq_ediv_of_nonneg (by omega), Int.natCast_ediv]
  have t4 : Int.tdiv ((e2 : Nat) : Int) ((c1 : Nat) : Int) = ((e2 / c1 : Nat) : Int) := by rw [Int.tdiv_eq_ediv_of_nonneg (by omega), Int.natCast_ediv]
  have b1 : n1 / c1 < B := Nat.lt_of_le_of_lt (Nat.div_le_self _ _) h1
  have b2 : n2 / c2 < B := Nat.lt_of_le_of_lt (Nat.div_le_self _ _) h3
  have b3 : e1 / c2 < B := Nat.lt_of_le_of_lt (Nat.div_le_self _ _) h2
  have b4 : e2 / c1 < B := Nat.lt_of_le_of_lt (Nat.div_le_self _ _) h4
  generalize n1 / c1 = q1 at *
  generalize n2 / c2 = q2 at *
  generalize e1 / c2 = q3 at *
  generalize e2 / c1 = q4 at *
  have w1 : IntKind.u64.wrap ((q1 : Nat) : Int) = (q1 : Int) := wrap_nat b1
  have w2 : IntKind.u64.wrap ((q2 : Nat) : Int) = (q2 : Int) := wrap_nat b2
  have w3 : IntKind.u64.wrap ((q3 : Nat) : Int) = (q3 : Int) := wrap_nat b3
  have w4 : IntKind.u64.wrap ((q4 : Nat) : Int) = (q4 : Int) := wrap_nat b4
  have z1 : ¬ ((c1 : Nat) : Int) = 0 := by omega
  have z2 : ¬ ((c2 : Nat) : Int) = 0 := by omega
  have x1 : ¬ c1 = 0 := by omega
  have x2 : ¬ c2 = 0 := by omega
  have y1 : (((c1 : Nat) : Int) == 0) = false := by rw [beq_eq_false_iff_ne]; omega
  have y2 : (((c2 : Nat) : Int) == 0) = false := by rw [beq_eq_false_iff_ne]; omega
  have HT1 := Lib.hid (fun W => timesWord_any q1 q2 b1 b2 W)
  have HT2 := Lib.hid (fun W => timesWord_any q3 q4 b3 b4 W)
  clear hg1 hg2 b1 b2 b3 b4
  go_enter Tryz.func103, Tryz.ntmps103
  go_wp2_with fail
  obtain ⟨W0, hW0, hb0, ⟨f0, f1, f2, f3⟩, ⟨g0, g1, g2, g3⟩, hz⟩ := box3 w (.bool neg1) (u n1) (u l1) (.pointer none) (.bool neg2) (u n2) (u l2) (.pointer none); rw [← hW0]; clear hW0; have HZ := Lib.hid hz; have HW0 := Lib.hid hb0; have hb0 := Below.refl W0.heap.size W0; clear hz
  go_region_held3 (fun w' => (w'.cell? ⟨w.heap.size, 0, none⟩ = some (.bool neg1) ∧ w'.cell? ⟨w.heap.size, 1, none⟩ = some (u n1) ∧ w'.cell? ⟨w.heap.size, 2, none⟩ = some (u l1) ∧ w'.cell? ⟨w.heap.size, 3, none⟩ = some (.pointer none)) ∧ (w'.cell? ⟨w.heap.size + 1, 0, none⟩ = some (.bool neg2) ∧ w'.cell? ⟨w.heap.size + 1, 1, none⟩ = some (u n2) ∧ w'.cell? ⟨w.heap.size + 1, 2, none⟩ = some (u l2) ∧ w'.cell? ⟨w.heap.size + 1, 3, none⟩ = some (.pointer none))) (go_keep) (first | ((with_reducible refine (HB2.out _).mono ?_); rintro e W1 ⟨rfl, hb⟩; (obtain ⟨_, _, _, _⟩ := boxq (b := w.heap.size) hb (by assumption) (by assumption) (by assumption) (by assumption); obtain ⟨_, _, _, _⟩ := boxq (b := w.heap.size + 1) hb (by assumption) (by assumption) (by assumption) (by assumption))) | ((with_reducible refine (HC1.out _ (HW0.out.trans ((chain hb0 hb).mono HW0.out.size))).mono ?_); rintro e W2 ⟨rfl, rfl⟩))
  have HBa := Lib.hid (chain hb0 hb)
  clear hb0 hb
  go_wp2_with fail
  go_region_held3 (fun w' => (w'.cell? ⟨w.heap.size, 0, none⟩ = some (.bool neg1) ∧ w'.cell? ⟨w.heap.size, 1, none⟩ = some (u n1) ∧ w'.cell? ⟨w.heap.size, 2, none⟩ = some (u l1) ∧ w'.cell? ⟨w.heap.size, 3, none⟩ = some (.pointer none)) ∧ (w'.cell? ⟨w.heap.size + 1, 0, none⟩ = some (.bool neg2) ∧ w'.cell? ⟨w.heap.size + 1, 1, none⟩ = some (u n2) ∧ w'.cell? ⟨w.heap.size + 1, 2, none⟩ = some (u l2) ∧ w'.cell? ⟨w.heap.size + 1, 3, none⟩ = some (.pointer none))) (go_keep) (first | ((with_reducible refine (HB1.out _).mono ?_); rintro e W3 ⟨rfl, hb⟩; (obtain ⟨_, _, _, _⟩ := boxq (b := w.heap.size) hb (by assumption) (by assumption) (by assumption) (by assumption); obtain ⟨_, _, _, _⟩ := boxq (b := w.heap.size + 1) hb (by assumption) (by assumption) (by assumption) (by assumption))) | ((with_reducible refine (HC2.out _ (HW0.out.trans ((chain HBa.out hb).mono HW0.out.size))).mono ?_); rintro e W4 ⟨rfl, rfl⟩))
  have HBb := Lib.hid (chain HBa.out hb)
  clear HBa hb
  go_wp2_with fail
  go_region_held3 (fun w' => (w'.cell? ⟨w.heap.size, 0, none⟩ = some (.bool neg1) ∧ w'.cell? ⟨w.heap.size, 1, none⟩ = some (u n1) ∧ w'.cell? ⟨w.heap.size, 2, none⟩ = some (u l1) ∧ w'.cell? ⟨w.heap.size, 3, none⟩ = some (.pointer none)) ∧ (w'.cell? ⟨w.heap.size + 1, 0, none⟩ = some (.bool neg2) ∧ w'.cell? ⟨w.heap.size + 1, 1, none⟩ = some (u n2) ∧ w'.cell? ⟨w.heap.size + 1, 2, none⟩ = some (u l2) ∧ w'.cell? ⟨w.heap.size + 1, 3, none⟩ = some (.pointer none))) (go_keep) (((with_reducible refine (HT1.out _).mono ?_); rintro e W5 ⟨rfl, hb⟩; (obtain ⟨_, _, _, _⟩ := boxq (b := w.heap.size) hb (by assumption) (by assumption) (by assumption) (by assumption); obtain ⟨_, _, _, _⟩ := boxq (b := w.heap.size + 1) hb (by assumption) (by assumption) (by assumption) (by assumption))))
  have HBc := Lib.hid (chain HBb.out hb)
  clear HBb hb
  have HF1 := Lib.hid (fits (x := q1) (y := q2))
  have HL1 := Lib.hid (prodLo_lt q1 q2)
  generalize prodLo q1 q2 = num at *
  generalize decide (prodHi q1 q2 = 0) = fits1 at *
  go_wp2_with fail
  go_region_held3 (fun w' => (w'.cell? ⟨w.heap.size, 0, none⟩ = some (.bool neg1) ∧ w'.cell? ⟨w.heap.size, 1, none⟩ = some (u n1) ∧ w'.cell? ⟨w.heap.size, 2, none⟩ = some (u l1) ∧ w'.cell? ⟨w.heap.size, 3, none⟩ = some (.pointer none)) ∧ (w'.cell? ⟨w.heap.size + 1, 0, none⟩ = some (.bool neg2) ∧ w'.cell? ⟨w.heap.size + 1, 1, none⟩ = some (u n2) ∧ w'.cell? ⟨w.heap.size + 1, 2, none⟩ = some (u l2) ∧ w'.cell? ⟨w.heap.size + 1, 3, none⟩ = some (.pointer none))) (go_keep) (first | ((with_reducible refine (HB1.out _).mono ?_); rintro e W6 ⟨rfl, hb⟩; (obtain ⟨_, _, _, _⟩ := boxq (b := w.heap.size) hb (by assumption) (by assumption) (by assumption) (by assumption); obtain ⟨_, _, _, _⟩ := boxq (b := w.heap.size + 1) hb (by assumption) (by assumption) (by assumption) (by assumption))) | ((with_reducible refine (HB2.out _).mono ?_); rintro e W7 ⟨rfl, hb'⟩; (obtain ⟨_, _, _, _⟩ := boxq (b := w.heap.size) hb' (by assumption) (by assumption) (by assumption) (by assumption); obtain ⟨_, _, _, _⟩ := boxq (b := w.heap.size + 1) hb' (by assumption) (by assumption) (by assumption) (by assumption))) | ((with_reducible refine (HT2.out _).mono ?_); rintro e W8 ⟨rfl, hb''⟩; (obtain ⟨_, _, _, _⟩ := boxq (b := w.heap.size) hb'' (by assumption) (by assumption) (by assumption) (by assumption); obtain ⟨_, _, _, _⟩ := boxq (b := w.heap.size + 1) hb'' (by assumption) (by assumption) (by assumption) (by assumption))))
  have HBd := Lib.hid ((chain HBc.out hb).trans ((hb'.trans (hb''.mono hb'.size)).mono (chain HBc.out hb).size))
  clear HBc hb hb' hb''
  have HF2 := Lib.hid (fits (x := q3) (y := q4))
  have HL2 := Lib.hid (prodLo_lt q3 q4)
  generalize prodLo q3 q4 = den at *
  generalize decide (prodHi q3 q4 = 0) = fits2 at *
  clear f0 f1 f2 f3 g0 g1 g2 g3
  go_wp2_with fail
  refine (small_any (!neg1 == neg2) num den HL2.out _).mono ?_
  rintro e W9 ⟨rfl, hb⟩
  (obtain ⟨_, _, _, _⟩ := boxq (b := w.heap.size) hb (by assumption) (by assumption) (by assumption) (by assumption); obtain ⟨_, _, _, _⟩ := boxq (b := w.heap.size + 1) hb (by assumption) (by assumption) (by assumption) (by assumption))
  have HBe := Lib.hid (HBd.out.trans (hb.mono HBd.out.size))
  clear HBd hb
  have HD := Lib.hid (difLo_one (d := den) HL2.out)
  generalize hsg : (!neg1 == neg2 && !decide (num = 0)) = sg
  generalize difLo den 1 = ll at *
  have hz := HZ.out.below HBe.out (Nat.le_refl _)
  have zf := hz.frozen
  obtain ⟨z0, z1, z2, z3⟩ := hz.cells
  have zf0 := zf 0
  have zf1 := zf 1
  have zf2 := zf 2
  have zf3 := zf 3
  clear zf hz
  go_wp2_with fail
  · rename_i hf
    have hf : fits1 = true := by simpa using hf
    refine bodyPost_ret (v := .tuple #[lo sg num ll, .bool fits2]) (by simp [results, Tryz.results103, go_sem, z0, z1, z2, z3]) rfl ?_
    refine ⟨sg, num, ll, fits2, rfl, ?_, ?_, store4 HW0.out HBe.out (by omega) _ _ _ _⟩
    · intro hok hh
      have f1 := HF1.out hf
      have f2 := HF2.out hok
      subst f1 f2
      exact ⟨hsg.symm, rfl, HD.out hh.2.2⟩
    · intro hok
      rw [← HF1.out hf, ← HF2.out hok]
      exact ⟨HL1.out, HL2.out⟩
  · rename_i hf
    have hf : fits1 = false := by simpa using hf
    subst hf
    refine bodyPost_ret (v := .tuple #[lo sg num ll, .bool false]) (by simp [results, Tryz.results103, go_sem, z0, z1, z2, z3]) rfl ?_
    refine ⟨sg, num, ll, false, rfl, ?_, ?_, store4 HW0.out HBe.out (by omega) _ _ _ _⟩ <;> intro hok <;> exact absurd hok (by simp)

end Go.Proofs.YtojploidgagmgaaGreatDoor

/- plusSmall: sums of numbers of one limb each. -/
namespace Go.Proofs.YtojploidgagmgaaGreatDoor
open Go Go.RowKit Go.Proofs Lim

/-- The parts of the sum of two fractions: its sign, its size, and its denominator. -/
def sumS (neg1 : Bool) (n1 d1 : Nat) (neg2 : Bool) (n2 d2 : Nat) : Bool × Nat := addS neg1 (n1 * (d2 / Nat.gcd d1 d2)) neg2 (n2 * (d1 / Nat.gcd d1 d2))
def sumX (neg1 : Bool) (n1 d1 : Nat) (neg2 : Bool) (n2 d2 : Nat) : Nat := Nat.gcd (sumS neg1 n1 d1 neg2 n2 d2).2 (Nat.gcd d1 d2)
def sumN (neg1 : Bool) (n1 d1 : Nat) (neg2 : Bool) (n2 d2 : Nat) : Nat := (sumS neg1 n1 d1 neg2 n2 d2).2 / sumX neg1 n1 d1 neg2 n2 d2
def sumD (neg1 : Bool) (n1 d1 : Nat) (neg2 : Bool) (n2 d2 : Nat) : Nat := d1 / Nat.gcd d1 d2 * (d2 / sumX neg1 n1 d1 neg2 n2 d2)

set_option maxHeartbeats 3200000 in
theorem plusSmall_any (neg1 neg2 : Bool) (n1 l1 n2 l2 : Nat) (h1 : n1 < B) (h2 : l1 + 1 < B) (h3 : n2 < B) (h4 : l2 + 1 < B) (w : World) (hG : Gr w) :
    Calls Tryz.prog 98 #[lo neg1 n1 l1, lo neg2 n2 l2] w (SmallPost w (sumS neg1 n1 (l1 + 1) neg2 n2 (l2 + 1)).1 (sumN neg1 n1 (l1 + 1) neg2 n2 (l2 + 1)) (sumD neg1 n1 (l1 + 1) neg2 n2 (l2 + 1))) := by
  have HB2 := Lib.hid (fun W => bottom_any neg2 n2 l2 none h4 W)
  have HB1 := Lib.hid (fun W => bottom_any neg1 n1 l1 none h2 W)
  have HC1 := Lib.hid (fun W (hW : Below w.heap.size w W) => commonWord_any (l1 + 1) (l2 + 1) h2 h4 W (hG.below hW hG.size))
  have hg1 : 0 < Nat.gcd (l1 + 1) (l2 + 1) := Nat.gcd_pos_of_pos_right _ (by omega)
  have hgB : Nat.gcd (l1 + 1) (l2 + 1) < B := Nat.lt_of_le_of_lt (Nat.gcd_le_left _ (by omega)) h2
  have o1 : 0 < l1 + 1 := by omega
  have o2 : 0 < l2 + 1 := by omega
  obtain ⟨NEG, hNEG⟩ : ∃ x, x = (sumS neg1 n1 (l1 + 1) neg2 n2 (l2 + 1)).1 := ⟨_, rfl⟩
  obtain ⟨NUM, hNUM⟩ : ∃ x, x = sumN neg1 n1 (l1 + 1) neg2 n2 (l2 + 1) := ⟨_, rfl⟩
  obtain ⟨DEN, hDEN⟩ : ∃ x, x = sumD neg1 n1 (l1 + 1) neg2 n2 (l2 + 1) := ⟨_, rfl⟩
  rw [← hNEG, ← hNUM, ← hDEN]
  unfold sumN sumX sumS at hNUM
  unfold sumD sumX sumS at hDEN
  unfold sumS at hNEG
  have HNEG := Lib.hid hNEG
  have HNUM := Lib.hid hNUM
  have HDEN := Lib.hid hDEN
  clear hNEG hNUM hDEN
  generalize l1 + 1 = e1 at *
  generalize l2 + 1 = e2 at *
  generalize Nat.gcd e1 e2 = c at *
  have t1 : Int.tdiv ((e1 : Nat) : Int) ((c : Nat) : Int) = ((e1 / c : Nat) : Int) := by rw [Int.tdiv_eq_ediv_of_nonneg (by omega), Int.natCast_ediv]
  have t2 : Int.tdiv ((e2 : Nat) : Int) ((c : Nat) : Int) = ((e2 / c : Nat) : Int) := by rw [Int.tdiv_eq_ediv_of_nonneg (by omega), Int.natCast_ediv]
  have b1 : e1 / c < B := Nat.lt_of_le_of_lt (Nat.div_le_self _ _) h2
  have b2 : e2 / c < B := Nat.lt_of_le_of_lt (Nat.div_le_self _ _) h4
  generalize e1 / c = q1 at *
  generalize e2 / c = q2 at *
  have w1 : IntKind.u64.wrap ((q1 : Nat) : Int) = (q1 : Int) := wrap_nat b1
  have w2 : IntKind.u64.wrap ((q2 : Nat) : Int) = (q2 : Int) := wrap_nat b2
  have x1 : ¬ c = 0 := by omega
  have HT1 := Lib.hid (fun W => timesWord_any n1 q2 h1 b2 W)
  have HT2 := Lib.hid (fun W => timesWord_any n2 q1 h3 b1 W)
  have B1 := Lib.hid b1
  have HHG := Lib.hid hG
  have HE := Lib.hid h4
  have HgB := Lib.hid hgB
  have Hg1 := Lib.hid hg1
  clear b1 b2 hG h4 hgB hg1 h1 h2 h3 o1 o2
  go_enter Tryz.func98, Tryz.ntmps98
  go_wp2_with fail
  obtain ⟨W0, hW0, hb0, ⟨f0, f1, f2, f3⟩, ⟨g0, g1, g2, g3⟩, hz⟩ := box3 w (.bool neg1) (u n1) (u l1) (.pointer none) (.bool neg2) (u n2) (u l2) (.pointer none); rw [← hW0]; clear hW0; have HZ := Lib.hid hz; have HW0 := Lib.hid hb0; have hb0 := Below.refl W0.heap.size W0; clear hz
  go_region_held3 (fun w' => (w'.cell? ⟨w.heap.size, 0, none⟩ = some (.bool neg1) ∧ w'.cell? ⟨w.heap.size, 1, none⟩ = some (u n1) ∧ w'.cell? ⟨w.heap.size, 2, none⟩ = some (u l1) ∧ w'.cell? ⟨w.heap.size, 3, none⟩ = some (.pointer none)) ∧ (w'.cell? ⟨w.heap.size + 1, 0, none⟩ = some (.bool neg2) ∧ w'.cell? ⟨w.heap.size + 1, 1, none⟩ = some (u n2) ∧ w'.cell? ⟨w.heap.size + 1, 2, none⟩ = some (u l2) ∧ w'.cell? ⟨w.heap.size + 1, 3, none⟩ = some (.pointer none))) (go_keep) (first | ((with_reducible refine (HB1.out _).mono ?_); rintro e W1 ⟨rfl, hb⟩; (obtain ⟨_, _, _, _⟩ := boxq (b := w.heap.size) hb (by assumption) (by assumption) (by assumption) (by assumption); obtain ⟨_, _, _, _⟩ := boxq (b := w.heap.size + 1) hb (by assumption) (by assumption) (by assumption) (by assumption))) | ((with_reducible refine (HB2.out _).mono ?_); rintro e W2 ⟨rfl, hb'⟩; (obtain ⟨_, _, _, _⟩ := boxq (b := w.heap.size) hb' (by assumption) (by assumption) (by assumption) (by assumption); obtain ⟨_, _, _, _⟩ := boxq (b := w.heap.size + 1) hb' (by assumption) (by assumption) (by assumption) (by assumption))) | ((with_reducible refine (HC1.out _ (chain1 HW0.out (chain1 (chain hb0 hb) hb'))).mono ?_); rintro e W3 ⟨rfl, rfl⟩))
  have HBa := Lib.hid (chain1 (chain hb0 hb) hb')
  clear hb0 hb hb' f0 f1 f2 f3 g0 g1 g2 g3
  go_wp2_with fail
  go_region_held3 (fun w' => (w'.cell? ⟨w.heap.size, 0, none⟩ = some (.bool neg1) ∧ w'.cell? ⟨w.heap.size, 1, none⟩ = some (u n1) ∧ w'.cell? ⟨w.heap.size, 2, none⟩ = some (u l1) ∧ w'.cell? ⟨w.heap.size, 3, none⟩ = some (.pointer none)) ∧ (w'.cell? ⟨w.heap.size + 1, 0, none⟩ = some (.bool neg2) ∧ w'.cell? ⟨w.heap.size + 1, 1, none⟩ = some (u n2) ∧ w'.cell? ⟨w.heap.size + 1, 2, none⟩ = some (u l2) ∧ w'.cell? ⟨w.heap.size + 1, 3, none⟩ = some (.pointer none))) (go_keep) (first | ((with_reducible refine (HB2.out _).mono ?_); rintro e W4 ⟨rfl, hb⟩; (obtain ⟨_, _, _, _⟩ := boxq (b := w.heap.size) hb (by assumption) (by assumption) (by assumption) (by assumption); obtain ⟨_, _, _, _⟩ := boxq (b := w.heap.size + 1) hb (by assumption) (by assumption) (by assumption) (by assumption))) | ((with_reducible refine (HT1.out _).mono ?_); rintro e W5 ⟨rfl, hb'⟩; (obtain ⟨_, _, _, _⟩ := boxq (b := w.heap.size) hb' (by assumption) (by assumption) (by assumption) (by assumption); obtain ⟨_, _, _, _⟩ := boxq (b := w.heap.size + 1) hb' (by assumption) (by assumption) (by assumption) (by assumption))))
  have HBb := Lib.hid (chain1 (chain HBa.out hb) hb')
  clear HBa hb hb'
  have HF1 := Lib.hid (fits (x := n1) (y := q2))
  have HL1 := Lib.hid (prodLo_lt n1 q2)
  generalize prodLo n1 q2 = left at *
  generalize decide (prodHi n1 q2 = 0) = fits1 at *
  go_wp2_with fail
  go_region_held3 (fun w' => (w'.cell? ⟨w.heap.size, 0, none⟩ = some (.bool neg1) ∧ w'.cell? ⟨w.heap.size, 1, none⟩ = some (u n1) ∧ w'.cell? ⟨w.heap.size, 2, none⟩ = some (u l1) ∧ w'.cell? ⟨w.heap.size, 3, none⟩ = some (.pointer none)) ∧ (w'.cell? ⟨w.heap.size + 1, 0, none⟩ = some (.bool neg2) ∧ w'.cell? ⟨w.heap.size + 1, 1, none⟩ = some (u n2) ∧ w'.cell? ⟨w.heap.size + 1, 2, none⟩ = some (u l2) ∧ w'.cell? ⟨w.heap.size + 1, 3, none⟩ = some (.pointer none))) (go_keep) (first | ((with_reducible refine (HB1.out _).mono ?_); rintro e W6 ⟨rfl, hb⟩; (obtain ⟨_, _, _, _⟩ := boxq (b := w.heap.size) hb (by assumption) (by assumption) (by assumption) (by assumption); obtain ⟨_, _, _, _⟩ := boxq (b := w.heap.size + 1) hb (by assumption) (by assumption) (by assumption) (by assumption))) | ((with_reducible refine (HT2.out _).mono ?_); rintro e W7 ⟨rfl, hb'⟩; (obtain ⟨_, _, _, _⟩ := boxq (b := w.heap.size) hb' (by assumption) (by assumption) (by assumption) (by assumption); obtain ⟨_, _, _, _⟩ := boxq (b := w.heap.size + 1) hb' (by assumption) (by assumption) (by assumption) (by assumption))))
  have HBc := Lib.hid (chain1 (chain HBb.out hb) hb')
  clear HBb hb hb'
  have HF2 := Lib.hid (fits (x := n2) (y := q1))
  have HL2 := Lib.hid (prodLo_lt n2 q1)
  generalize prodLo n2 q1 = right at *
  generalize decide (prodHi n2 q1 = 0) = fits2 at *
  have HA := Lib.hid (fun W => addWords_any neg1 neg2 left right HL1.out HL2.out W)
  go_wp2_with fail
  refine (HA.out _).mono ?_
  rintro e W8 ⟨t, htB, fits3, ht, rfl, hb⟩
  (obtain ⟨_, _, _, _⟩ := boxq (b := w.heap.size) hb (by assumption) (by assumption) (by assumption) (by assumption); obtain ⟨_, _, _, _⟩ := boxq (b := w.heap.size + 1) hb (by assumption) (by assumption) (by assumption) (by assumption))
  have HBd := Lib.hid (chain1 HBc.out hb)
  have HtB := Lib.hid htB
  have HF3 := Lib.hid ht
  clear HBc hb HA htB ht
  generalize hsg0 : (addS neg1 left neg2 right).1 = sg0 at *
  have HS0 := Lib.hid hsg0
  clear hsg0
  have hx1 : 0 < Nat.gcd t c := Nat.gcd_pos_of_pos_right _ Hg1.out
  have hxB : Nat.gcd t c < B := Nat.lt_of_le_of_lt (Nat.gcd_le_right _ Hg1.out) HgB.out
  have HC2 := Lib.hid (fun W (hW : Below w.heap.size w W) => commonWord_any t c HtB.out HgB.out W (HHG.out.below hW HHG.out.size))
  obtain ⟨ex, hex⟩ : ∃ ex, ex = Nat.gcd t c := ⟨_, rfl⟩
  rw [← hex] at hx1 hxB HC2
  have HX := Lib.hid hex
  clear hex
  have t3 : Int.tdiv ((t : Nat) : Int) ((ex : Nat) : Int) = ((t / ex : Nat) : Int) := by rw [Int.tdiv_eq_ediv_of_nonneg (by omega), Int.natCast_ediv]
  have t4 : Int.tdiv ((e2 : Nat) : Int) ((ex : Nat) : Int) = ((e2 / ex : Nat) : Int) := by rw [Int.tdiv_eq_ediv_of_nonneg (by omega), Int.natCast_ediv]
  have b3 : t / ex < B := Nat.lt_of_le_of_lt (Nat.div_le_self _ _) HtB.out
  have b4 : e2 / ex < B := Nat.lt_of_le_of_lt (Nat.div_le_self _ _) HE.out
  obtain ⟨num, hnum⟩ : ∃ num, num = t / ex := ⟨_, rfl⟩
  obtain ⟨q5, hq5⟩ : ∃ q5, q5 = e2 / ex := ⟨_, rfl⟩
  rw [← hnum] at t3 b3
  rw [← hq5] at t4 b4
  have d3 : ((t : Nat) : Int) / ((ex : Nat) : Int) = (num : Int) := by rw [hnum, Int.natCast_ediv]
  have HN := Lib.hid hnum
  have HQ5 := Lib.hid hq5
  clear hnum hq5
  have w3 : IntKind.u64.wrap ((num : Nat) : Int) = (num : Int) := wrap_nat b3
  have w4 : IntKind.u64.wrap ((q5 : Nat) : Int) = (q5 : Int) := wrap_nat b4
  have x2 : ¬ ex = 0 := by omega
  have x3 : ¬ ((ex : Nat) : Int) = 0 := by omega
  have HT3 := Lib.hid (fun W => timesWord_any q1 q5 B1.out b4 W)
  have HB3 := Lib.hid b3
  clear hx1 hxB b3 b4
  go_wp2_with fail
  refine (HC2.out _ (chain1 HW0.out HBd.out)).mono ?_
  rintro e W9 ⟨rfl, rfl⟩
  go_wp2_with fail
  go_region_held3 (fun w' => (w'.cell? ⟨w.heap.size, 0, none⟩ = some (.bool neg1) ∧ w'.cell? ⟨w.heap.size, 1, none⟩ = some (u n1) ∧ w'.cell? ⟨w.heap.size, 2, none⟩ = some (u l1) ∧ w'.cell? ⟨w.heap.size, 3, none⟩ = some (.pointer none)) ∧ (w'.cell? ⟨w.heap.size + 1, 0, none⟩ = some (.bool neg2) ∧ w'.cell? ⟨w.heap.size + 1, 1, none⟩ = some (u n2) ∧ w'.cell? ⟨w.heap.size + 1, 2, none⟩ = some (u l2) ∧ w'.cell? ⟨w.heap.size + 1, 3, none⟩ = some (.pointer none))) (go_keep) (first | ((with_reducible refine (HB1.out _).mono ?_); rintro e W9 ⟨rfl, hb⟩; (obtain ⟨_, _, _, _⟩ := boxq (b := w.heap.size) hb (by assumption) (by assumption) (by assumption) (by assumption); obtain ⟨_, _, _, _⟩ := boxq (b := w.heap.size + 1) hb (by assumption) (by assumption) (by assumption) (by assumption))) | ((with_reducible refine (HB2.out _).mono ?_); rintro e W10 ⟨rfl, hb'⟩; (obtain ⟨_, _, _, _⟩ := boxq (b := w.heap.size) hb' (by assumption) (by assumption) (by assumption) (by assumption); obtain ⟨_, _, _, _⟩ := boxq (b := w.heap.size + 1) hb' (by assumption) (by assumption) (by assumption) (by assumption))) | ((with_reducible refine (HT3.out _).mono ?_); rintro e W11 ⟨rfl, hb''⟩; (obtain ⟨_, _, _, _⟩ := boxq (b := w.heap.size) hb'' (by assumption) (by assumption) (by assumption) (by assumption); obtain ⟨_, _, _, _⟩ := boxq (b := w.heap.size + 1) hb'' (by assumption) (by assumption) (by assumption) (by assumption))))
  have HBe := Lib.hid (chain1 (chain1 (chain HBd.out hb) hb') hb'')
  clear HBd hb hb' hb''
  have HF4 := Lib.hid (fits (x := q1) (y := q5))
  have HL4 := Lib.hid (prodLo_lt q1 q5)
  generalize prodLo q1 q5 = den at *
  generalize decide (prodHi q1 q5 = 0) = fits4 at *
  have hok : fits1 = true → fits2 = true → fits3 = true → fits4 = true → NEG = sg0 ∧ NUM = num ∧ DEN = den := by
    intro k1 k2 k3 k4
    have f1 := HF1.out k1
    have f2 := HF2.out k2
    have f3 := HF3.out k3
    have f4 := HF4.out k4
    subst f1 f2
    have f3 := f3.symm
    refine ⟨?_, ?_, ?_⟩
    · rw [HNEG.out, HS0.out]
    · rw [HNUM.out, f3, HN.out, HX.out]
    · rw [HDEN.out, f3, f4, HQ5.out, HX.out]
  have HOK := Lib.hid hok
  clear hok HF1 HF2 HF3 HF4 HN HX HQ5 HS0 HNEG HNUM HDEN HT3 HC2 HT1 HT2
  go_wp2_with fail
  refine (small_any sg0 num den HL4.out _).mono ?_
  rintro e W12 ⟨rfl, hb⟩
  (obtain ⟨_, _, _, _⟩ := boxq (b := w.heap.size) hb (by assumption) (by assumption) (by assumption) (by assumption); obtain ⟨_, _, _, _⟩ := boxq (b := w.heap.size + 1) hb (by assumption) (by assumption) (by assumption) (by assumption))
  have HBf := Lib.hid (chain1 HBe.out hb)
  clear HBe hb
  have HD := Lib.hid (difLo_one (d := den) HL4.out)
  generalize hsg : (sg0 && !decide (num = 0)) = sg
  have HSG := Lib.hid hsg
  clear hsg
  generalize difLo den 1 = ll at *
  have hz := HZ.out.below HBf.out (Nat.le_refl _)
  have zf := hz.frozen
  obtain ⟨z0, z1, z2, z3⟩ := hz.cells
  have zf0 := zf 0
  have zf1 := zf 1
  have zf2 := zf 2
  have zf3 := zf 3
  clear zf hz
  go_wp2_with fail
  · rename_i k1 k2 k3
    refine bodyPost_ret (v := .tuple #[lo sg num ll, .bool fits4]) (by simp [results, Tryz.results98, go_sem, z0, z1, z2, z3]) rfl ?_
    refine ⟨sg, num, ll, fits4, rfl, ?_, ?_, store4 HW0.out HBf.out (by omega) _ _ _ _⟩
    · intro k4 hh
      obtain ⟨e1, e2, e3⟩ := HOK.out (by simpa using k1) (by simpa using k2) (by simpa using k3) k4
      subst e1 e2 e3
      exact ⟨HSG.out.symm, rfl, HD.out hh.2.2⟩
    · intro k4
      obtain ⟨e1, e2, e3⟩ := HOK.out (by simpa using k1) (by simpa using k2) (by simpa using k3) k4
      rw [e2, e3]
      exact ⟨HB3.out, HL4.out⟩
  · refine bodyPost_ret (v := .tuple #[lo sg num ll, .bool false]) (by simp [results, Tryz.results98, go_sem, z0, z1, z2, z3]) rfl ?_
    refine ⟨sg, num, ll, false, rfl, ?_, ?_, store4 HW0.out HBf.out (by omega) _ _ _ _⟩ <;> intro hok <;> exact absurd hok (by simp)
  · refine bodyPost_ret (v := .tuple #[lo sg num ll, .bool false]) (by simp [results, Tryz.results98, go_sem, z0, z1, z2, z3]) rfl ?_
    refine ⟨sg, num, ll, false, rfl, ?_, ?_, store4 HW0.out HBf.out (by omega) _ _ _ _⟩ <;> intro hok <;> exact absurd hok (by simp)
  · refine bodyPost_ret (v := .tuple #[lo sg num ll, .bool false]) (by simp [results, Tryz.results98, go_sem, z0, z1, z2, z3]) rfl ?_
    refine ⟨sg, num, ll, false, rfl, ?_, ?_, store4 HW0.out HBf.out (by omega) _ _ _ _⟩ <;> intro hok <;> exact absurd hok (by simp)

end Go.Proofs.YtojploidgagmgaaGreatDoor

/- fraction, whole, parts: numbers of any size from their parts, and back. -/
namespace Go.Proofs.YtojploidgagmgaaGreatDoor
open Go Go.RowKit Go.Proofs Lim

theorem Num.form {w : World} {v : Value} {neg : Bool} {n d : Nat} (h : Num w v neg n d) : ∃ a b p, v = .agg #[.bool neg, u a, u b, .pointer p] ∧ a < B := by
  cases h with
  | low l hv hd hn hdB => exact ⟨_, _, _, hv, hn⟩
  | wide b x y hv hx hy h1 h2 hB h0 hd => exact ⟨_, _, _, hv, B_pos⟩

/-- A box of another kind may change. -/
theorem Typed.other {W W' : World} {R : Nat} {v : Value} {cs : Array Value} {t : TypeId} {fr : Nat × Nat} (h : Typed W v) (hR : W.heap[R]? = some (.cells cs t fr)) (ht : t ≠ 23) (ho : Only R W W') : Typed W' v := by
  intro a n c e hn
  obtain ⟨cs', fr', hc⟩ := h a n c e hn
  have hne : a.block ≠ R := by
    intro e2
    rw [e2, hR] at hc
    injection hc with hc
    injection hc with _ hc
    exact ht hc
  exact ⟨cs', fr', (ho.block _ hne).trans hc⟩

/-- A fresh result's box holds no limb of a natural. -/
theorem IsNat.only {W W' : World} {R : Nat} {v : Value} {n : Nat} (hR : Box W R (.bool false) (.int .u64 0) (.int .u64 0) (.pointer none)) (h : IsNat W v n) (ho : Only R W W') : IsNat W' v n := by
  obtain ⟨xs, ⟨⟨ao, c, rfl, h1, h2, hr⟩, ok, typ⟩, ht, hv⟩ := h
  refine ⟨xs, ⟨⟨ao, c, rfl, h1, h2, fun hn => ?_⟩, ok, typ.other hR (by decide) ho⟩, ht, hv⟩
  obtain ⟨b, off, rfl, row⟩ := hr hn
  refine ⟨b, off, rfl, ?_⟩
  by_cases hb : b = R
  · exfalso
    subst hb
    have hl := row (xs.length - 1) (by omega)
    have hne : xs ≠ [] := by intro e; subst e; simp at hn
    have hz : xs[xs.length - 1]?.getD 0 ≠ 0 := by
      have := ht hne
      rw [List.getLast_eq_getElem] at this
      rw [List.getElem?_eq_getElem (by omega)]
      exact this
    generalize xs[xs.length - 1]?.getD 0 = z at *
    unfold Box at hR
    rw [World.cell?, hR] at hl
    simp only at hl
    generalize off + (xs.length - 1) = i at hl
    rcases i with _ | _ | _ | _ | i <;> simp at hl <;> omega
  · exact ho.row hb row

theorem Num.only {W W' : World} {R : Nat} {v : Value} {neg : Bool} {n d : Nat} (hR : Box W R (.bool false) (.int .u64 0) (.int .u64 0) (.pointer none)) (h : Num W v neg n d) (ho : Only R W W') : Num W' v neg n d := by
  cases h with
  | low l hv hd hn hdB => exact .low l hv hd hn hdB
  | wide b x y hv hx hy h1 h2 hB h0 hd =>
    have hb : b ≠ R := by
      intro e
      subst e
      rw [hR.cells.1] at hx
      obtain ⟨_, _, _, rfl, _⟩ := h1.form
      injection hx with hx
      exact absurd hx (by simp)
    exact .wide b x y hv ((ho.cell (p := ⟨b, 0, none⟩) hb).trans hx) ((ho.cell (p := ⟨b, 1, none⟩) hb).trans hy) (h1.only hR ho) (h2.only hR ho) hB h0 hd

/-- A new slice of one limb. -/
theorem one_new (w : World) (x : Nat) (h0 : 0 < x) (hx : x < B) : IsNat (w.alloc (.cells #[u x] 23)) (.slice (some ⟨w.heap.size, 0, none⟩) 1 1) x := by
  have hB : Blk (w.alloc (.cells #[u x] 23)) w.heap.size [x] := Blk.new w [x]
  have hok : Ok [x] := by intro y hy; simp at hy; omega
  refine ⟨[x], Sl.of_blk hB hok 0 1 1 (by simp) (by simp) (by unfold maxLen; omega), ?_, by simp [val]⟩
  intro h
  simp
  omega

/-- What fraction leaves: the number with these parts. -/
def FracPost (w : World) (neg : Bool) (n d : Nat) (e : Ending) (w' : World) : Prop :=
  ∃ v, e = .returned v ∧ Num w' v (neg && !decide (n = 0)) n (if n = 0 then 1 else d) ∧ Below w.heap.size w w'

/-- A result that is returned from its box. -/
theorem FracPost.stored {w W : World} {R : Nat} {v : Value} {neg : Bool} {n d : Nat} {a0 a1 a2 a3 : Value} (hR : Box W R (.bool false) (.int .u64 0) (.int .u64 0) (.pointer none))
    (h : Num W v (neg && !decide (n = 0)) n (if n = 0 then 1 else d)) (hb : Below w.heap.size w W) (hw : w.heap.size ≤ R) :
    FracPost w neg n d (.returned v) ((((W.setCell ⟨R, 0, none⟩ a0).setCell ⟨R, 1, none⟩ a1).setCell ⟨R, 2, none⟩ a2).setCell ⟨R, 3, none⟩ a3) := by
  have ho := ((((Only.refl R W).set 0 a0).set 1 a1).set 2 a2).set 3 a3
  exact ⟨v, rfl, h.only hR ho, hb.trans (ho.below hw)⟩

/-- A new wide number. -/
theorem wide_new {w : World} {neg : Bool} {x y : Value} {n d : Nat} (o : Obj) (h1 : IsNat w x n) (h2 : IsNat w y d) (hn : 0 < n) (hd : 0 < d) (hB : ¬ (n < B ∧ d < B)) :
    FracPost w neg n d (.returned (wi neg ⟨w.heap.size + 1, 0, none⟩)) ((w.alloc o).alloc (.cells #[x, y] 132)) := by
  have hb1 := below1 w o
  have hb2 := below1 (w.alloc o) (.cells #[x, y] 132)
  have hb := chain1 hb1 hb2
  have hs : (w.alloc o).heap.size = w.heap.size + 1 := by
    show (w.heap.push _).size = _
    simp
  refine ⟨_, rfl, ?_, hb⟩
  have hn' : ¬ n = 0 := by omega
  rw [if_neg hn', show (neg && !decide (n = 0)) = neg from by simp [hn']]
  refine Num.wide (w.heap.size + 1) x y rfl ?_ ?_ (h1.below hb (Nat.le_refl _)) (h2.below hb (Nat.le_refl _)) (by omega) hn hd
  · rw [← hs]; exact World.cell?_alloc_new ..
  · rw [← hs]; exact World.cell?_alloc_new ..

theorem fraction_any (neg : Bool) (v1 v2 : Value) (n d : Nat) (w : World) (h1 : IsNat w v1 n) (h2 : IsNat w v2 d) (h0 : 0 < d) :
    Calls Tryz.prog 129 #[.bool neg, v1, v2] w (FracPost w neg n d) := by
  by_cases hn : n = 0
  · subst hn
    obtain ⟨ao, l, c, rfl, hl, hz, hB⟩ := h1.form
    have hl0 : l = 0 := hz.2 rfl
    subst hl0
    obtain ⟨bo, m, c', rfl, _, _, _⟩ := h2.form
    go_enter Tryz.func129, Tryz.ntmps129
    go_wp2_with fail
    refine bodyPost_ret (v := lo false 0 0) (by simp [results, Tryz.results129, go_sem]) rfl ?_
    exact ⟨_, rfl, by simpa using Num.low 0 rfl rfl B_pos (by decide), below1 w _⟩
  · have hn0 : 0 < n := Nat.pos_of_ne_zero hn
    by_cases hw : n < B ∧ d < B
    · obtain ⟨b1, o1, c1, rfl, f1⟩ := h1.limb hn0 hw.1
      obtain ⟨b2, o2, c2, rfl, f2⟩ := h2.limb h0 hw.2
      have HS := Lib.hid (fun W => small_any neg n d hw.2 W)
      have HD := Lib.hid (difLo_one hw.2 h0)
      have HN := Lib.hid hn
      have HW := Lib.hid hw
      have H0 := Lib.hid h0
      clear hn hw h1 h2 h0 hn0
      generalize hsg : (neg && !decide (n = 0)) = sg at *
      generalize difLo d 1 = ll at *
      go_enter Tryz.func129, Tryz.ntmps129
      go_wp2_with fail
      obtain ⟨W0, hW0, hb0, hz, hs⟩ := boxz w; rw [← hW0]; clear hW0; have HZ := Lib.hid hz; have HW0 := Lib.hid hb0; have hb0 := Below.refl W0.heap.size W0; clear hz
      clear hs
      have p1 : ¬ b1 = w.heap.size := Nat.ne_of_lt (World.block_lt_of_cell? w _ f1)
      have p2 : ¬ b2 = w.heap.size := Nat.ne_of_lt (World.block_lt_of_cell? w _ f2)
      have p3 : ¬ w.heap.size = b1 := fun h => p1 h.symm
      have p4 : ¬ w.heap.size = b2 := fun h => p2 h.symm
      have HG1 := Lib.hid f1
      have HG2 := Lib.hid f2
      have f1 : W0.cell? ⟨b1, o1, none⟩ = some (u n) := (HW0.out.cell (p := ⟨b1, o1, none⟩) (World.block_lt_of_cell? w _ f1)).trans f1
      have f2 : W0.cell? ⟨b2, o2, none⟩ = some (u d) := (HW0.out.cell (p := ⟨b2, o2, none⟩) (World.block_lt_of_cell? w _ f2)).trans f2
      go_region_held3 (fun w' => w'.cell? ⟨b1, o1, none⟩ = some (u n) ∧ w'.cell? ⟨b2, o2, none⟩ = some (u d)) (go_keep) (((with_reducible refine (HS.out _).mono ?_); rintro e W1 ⟨rfl, hb⟩; have hb1 := chain hb0 hb; have i1 := (hb1.cell (p := ⟨b1, o1, none⟩) (World.block_lt_of_cell? W0 _ f1)).trans f1; have i2 := (hb1.cell (p := ⟨b2, o2, none⟩) (World.block_lt_of_cell? W0 _ f2)).trans f2; (have hz := HZ.out.below hb1 (Nat.le_refl _); have zf := hz.frozen; obtain ⟨z0, z1, z2, z3⟩ := hz.cells; have zf0 := zf 0; have zf1 := zf 1; have zf2 := zf 2; have zf3 := zf 3; clear zf hz)))
      go_wp2_with fail
      refine bodyPost_ret (v := lo sg n ll) (by simp [results, Tryz.results129, go_sem, z0, z1, z2, z3]) rfl ?_
      refine ⟨_, rfl, ?_, store4 HW0.out hb1 (Nat.le_refl _) _ _ _ _⟩
      rw [hsg, if_neg HN.out]
      exact Num.low ll rfl HD.out.symm HW.out.1 HW.out.2
    · obtain ⟨ao, l, c, rfl, hl, hz, hB⟩ := h1.form
      obtain ⟨bo, m, c', rfl, hm, hz', hB'⟩ := h2.form
      have HH1 := Lib.hid h1
      have HH2 := Lib.hid h2
      have HHn := Lib.hid hn
      have HHw := Lib.hid hw
      have HH0 := Lib.hid h0
      have HHn0 := Lib.hid hn0
      have hl0 : ¬ l = 0 := fun h => hn (hz.1 h)
      have hm0 : ¬ m = 0 := fun h => by have := hz'.1 h; omega
      have hlm : ¬ (l = 1 ∧ m = 1) := by
        rintro ⟨rfl, rfl⟩
        refine hw ⟨?_, ?_⟩
        · rcases Nat.lt_or_ge n B with h | h
          · exact h
          · exact absurd (hB.2 h) (by omega)
        · rcases Nat.lt_or_ge d B with h | h
          · exact h
          · exact absurd (hB'.2 h) (by omega)
      have e0 : (((l : Nat) : Int) == 0) = false := by rw [beq_eq_false_iff_ne]; omega
      clear hz hz' hB hB' hn hw h1 h2 h0 hn0
      by_cases hl1 : l = 1
      · have e1 : (((m : Nat) : Int) == 1) = false := by rw [beq_eq_false_iff_ne]; omega
        subst hl1
        clear hm0 hl0 hlm
        go_enter Tryz.func129, Tryz.ntmps129
        go_wp2_with fail
        refine bodyPost_ret (v := wi neg ⟨w.heap.size + 1, 0, none⟩) (by simp [results, Tryz.results129, go_sem]) rfl ?_
        exact wide_new _ HH1.out HH2.out HHn0.out HH0.out HHw.out
      · have e1 : (((l : Nat) : Int) == 1) = false := by rw [beq_eq_false_iff_ne]; omega
        clear hm0 hl0 hlm hl1
        go_enter Tryz.func129, Tryz.ntmps129
        go_wp2_with fail
        refine bodyPost_ret (v := wi neg ⟨w.heap.size + 1, 0, none⟩) (by simp [results, Tryz.results129, go_sem]) rfl ?_
        exact wide_new _ HH1.out HH2.out HHn0.out HH0.out HHw.out

theorem whole_any (neg : Bool) (v1 : Value) (n : Nat) (w : World) (h1 : IsNat w v1 n) :
    Calls Tryz.prog 86 #[.bool neg, v1] w (FracPost w neg n 1) := by
  have HF := Lib.hid (fun W x (hx : IsNat W x 1) (hb : Below w.heap.size w W) => fraction_any neg v1 x n 1 W (h1.below hb (Nat.le_refl _)) hx (by omega))
  obtain ⟨ao, l, c, rfl, _, _, _⟩ := h1.form
  clear h1
  go_enter Tryz.func86, Tryz.ntmps86
  go_wp2_with fail
  obtain ⟨W0, hW0, hb0, hz, hs⟩ := boxz w; rw [← hW0]; clear hW0; have HZ := Lib.hid hz; have HW0 := Lib.hid hb0; have hb0 := Below.refl W0.heap.size W0; clear hz
  have h1n := one_new W0 1 (by decide) (by decide)
  have hb1 := below1 W0 (.cells #[u 1] 23)
  rw [hs] at h1n
  have hb2 := chain1 hb0 hb1
  refine (HF.out _ _ h1n (chain1 HW0.out hb2)).mono ?_
  rintro e W1 ⟨v, rfl, hN, hb⟩
  have hb3 := chain1 hb2 hb
  obtain ⟨a, b, p, rfl, _⟩ := hN.form
  have HN := Lib.hid hN
  have HB3 := Lib.hid hb3
  (have hz := HZ.out.below hb3 (Nat.le_refl _); have zf := hz.frozen; obtain ⟨z0, z1, z2, z3⟩ := hz.cells; have zf0 := zf 0; have zf1 := zf 1; have zf2 := zf 2; have zf3 := zf 3; clear zf hz)
  clear hN hb0 hb1 hb2 hb hb3 h1n
  have hz := HZ.out.below HB3.out (Nat.le_refl _)
  have hfin := FracPost.stored (a0 := .bool (neg && !decide (n = 0))) (a1 := u a) (a2 := u b) (a3 := .pointer p) hz HN.out (chain1 HW0.out HB3.out) (Nat.le_refl _)
  have HFin := Lib.hid hfin
  clear hfin hz HN
  generalize (neg && !decide (n = 0)) = sg at *
  go_wp2_with fail
  refine bodyPost_ret (v := .agg #[.bool sg, u a, u b, .pointer p]) (by simp [results, Tryz.results86, go_sem, z0, z1, z2, z3]) rfl ?_
  exact HFin.out

/-- What parts leaves. -/
def PartsPost (w : World) (n d : Nat) (e : Ending) (w' : World) : Prop := ∃ x y, e = .returned (.tuple #[x, y]) ∧ IsNat w' x n ∧ IsNat w' y d ∧ Below w.heap.size w w'

theorem parts_any (v : Value) (neg : Bool) (n d : Nat) (w : World) (h : Num w v neg n d) :
    Calls Tryz.prog 91 #[v] w (PartsPost w n d) := by
  cases h with
  | low l hv hd hn hdB =>
    subst hv hd
    have HW1 := Lib.hid (fun W => word_any n W hn)
    have HW2 := Lib.hid (fun W => word_any (l + 1) W hdB)
    have HBo := Lib.hid (fun W => bottom_any neg n l none hdB W)
    clear hn hdB
    generalize l + 1 = d at *
    go_enter Tryz.func91, Tryz.ntmps91
    go_wp2_with fail
    obtain ⟨W0, hW0, hb0, ⟨f0, f1, f2, f3⟩⟩ := box1 w (.bool neg) (u n) (u l) (.pointer none); rw [← hW0]; clear hW0
    go_region_held3 (fun w' => (w'.cell? ⟨w.heap.size, 0, none⟩ = some (.bool neg) ∧ w'.cell? ⟨w.heap.size, 1, none⟩ = some (u n) ∧ w'.cell? ⟨w.heap.size, 2, none⟩ = some (u l) ∧ w'.cell? ⟨w.heap.size, 3, none⟩ = some (.pointer none))) (go_keep) (first | ((with_reducible refine (HW1.out _).mono ?_); rintro e W1 ⟨x, rfl, hx, hb⟩; (obtain ⟨_, _, _, _⟩ := boxq (b := w.heap.size) hb (by assumption) (by assumption) (by assumption) (by assumption))) | ((with_reducible refine (HBo.out _).mono ?_); rintro e W2 ⟨rfl, hb'⟩; (obtain ⟨_, _, _, _⟩ := boxq (b := w.heap.size) hb' (by assumption) (by assumption) (by assumption) (by assumption))) | ((with_reducible refine (HW2.out _).mono ?_); rintro e W3 ⟨y, rfl, hy, hb''⟩; (obtain ⟨_, _, _, _⟩ := boxq (b := w.heap.size) hb'' (by assumption) (by assumption) (by assumption) (by assumption))))
    have HX := Lib.hid hx
    have HY := Lib.hid hy
    have HBa := Lib.hid (chain hb0 hb)
    have HBb := Lib.hid hb'
    have HBc := Lib.hid hb''
    clear hx hy hb0 hb hb' hb'' f0 f1 f2 f3
    go_wp2_with fail
    refine bodyPost_ret (v := .tuple #[x, y]) (by simp [results, Tryz.results91, go_sem]) rfl ?_
    exact ⟨x, y, rfl, (HX.out.below HBb.out (Nat.le_refl _)).below HBc.out (Nat.le_refl _), HY.out, chain1 (chain1 HBa.out HBb.out) HBc.out⟩
  | wide b x y hv hx hy h1 h2 hB h0 hd =>
    subst hv
    have H1 := Lib.hid h1
    have H2 := Lib.hid h2
    obtain ⟨xa, xl, xc, rfl, _, _, _⟩ := h1.form
    obtain ⟨ya, yl, yc, rfl, _, _, _⟩ := h2.form
    clear h1 h2 hB h0 hd
    go_enter Tryz.func91, Tryz.ntmps91
    go_wp2_with fail
    obtain ⟨W0, hW0, hb0, ⟨f0, f1, f2, f3⟩⟩ := box1 w (.bool neg) (u 0) (u 0) (.pointer (some ⟨b, 0, none⟩)); rw [← hW0]; clear hW0
    have g0 : W0.cell? ⟨b, 0, none⟩ = some (.slice xa xl xc) := (hb0.cell (p := ⟨b, 0, none⟩) (World.block_lt_of_cell? w _ hx)).trans hx
    have g1 : W0.cell? ⟨b, 1, none⟩ = some (.slice ya yl yc) := (hb0.cell (p := ⟨b, 1, none⟩) (World.block_lt_of_cell? w _ hy)).trans hy
    clear hx hy
    have HB0 := Lib.hid hb0
    clear hb0
    go_quiet (fail)
    go_wp2_with fail
    refine bodyPost_ret (v := .tuple #[.slice xa xl xc, .slice ya yl yc]) (by simp [results, Tryz.results91, go_sem]) rfl ?_
    have hB := bdrewN (n := nq) HB0.out
    exact ⟨_, _, rfl, H1.out.below hB (Nat.le_refl _), H2.out.below hB (Nat.le_refl _), hB⟩

/-- What addSigned leaves. -/
def AddNPost (w : World) (neg : Bool) (t : Nat) (e : Ending) (w' : World) : Prop := ∃ v, e = .returned (.tuple #[.bool neg, v]) ∧ IsNat w' v t ∧ Below w.heap.size w w'

theorem addSigned_any (a b : Bool) (v1 v2 : Value) (x y k : Nat) (w : World) (h1 : IsNat w v1 x) (h2 : IsNat w v2 y) (hx : x < B ^ k) (hy : y < B ^ k) (hk : (k : Int) ≤ 1073741824) :
    Calls Tryz.prog 138 #[.bool a, v1, .bool b, v2] w (AddNPost w (addS a x b y).1 (addS a x b y).2) := by
  have HP := Lib.hid (fun W (hW : Below w.heap.size w W) => plus_any v1 v2 x y k W (h1.below hW (Nat.le_refl _)) (h2.below hW (Nat.le_refl _)) hx hy hk)
  have HC := Lib.hid (fun W (hW : Below w.heap.size w W) => compare_any v1 v2 x y W (h1.below hW (Nat.le_refl _)) (h2.below hW (Nat.le_refl _)))
  have HM := Lib.hid (fun (h : y ≤ x) W (hW : Below w.heap.size w W) => minus_any v1 v2 x y k W (h1.below hW (Nat.le_refl _)) (h2.below hW (Nat.le_refl _)) hx h hk)
  have HM' := Lib.hid (fun (h : x ≤ y) W (hW : Below w.heap.size w W) => minus_any v2 v1 y x k W (h2.below hW (Nat.le_refl _)) (h1.below hW (Nat.le_refl _)) hy h hk)
  obtain ⟨xa, xl, xc, rfl, _, _, _⟩ := h1.form
  obtain ⟨ya, yl, yc, rfl, _, _, _⟩ := h2.form
  clear h1 h2 hx hy
  by_cases hab : a = b
  · subst hab
    go_enter Tryz.func138, Tryz.ntmps138
    go_wp2_with fail
    refine (HP.out w (Below.refl _ _)).mono ?_
    rintro e W1 ⟨v, rfl, hv, hb⟩
    have HV := Lib.hid hv
    have HB := Lib.hid hb
    clear hv hb
    go_wp2_with fail
    refine bodyPost_ret (v := .tuple #[.bool a, v]) (by simp [results, Tryz.results138, go_sem]) rfl ?_
    rw [show addS a x a y = (a, x + y) from by simp [addS]]
    exact ⟨v, rfl, HV.out, HB.out⟩
  · have hab' : (a == b) = false := by simpa using hab
    have HAB := Lib.hid hab
    clear hab
    by_cases hc : y ≤ x
    · have hcv : 0 ≤ cmpNat x y := by unfold cmpNat; split <;> first | omega | (split <;> omega)
      have HHC := Lib.hid hc
      clear hc
      generalize cmpNat x y = cv at *
      go_enter Tryz.func138, Tryz.ntmps138
      go_wp2_with fail
      refine (HC.out w (Below.refl _ _)).mono ?_
      rintro e W1 ⟨rfl, q, rfl⟩
      go_wp2_with fail
      refine (HM.out HHC.out _ (bdrewN (Below.refl _ _))).mono ?_
      rintro e W1 ⟨v, rfl, hv, hb⟩
      have HV := Lib.hid hv
      have HB := Lib.hid ((bdrewN (n := q) (Below.refl w.heap.size w)).trans hb)
      clear hv hb
      go_wp2_with fail
      refine bodyPost_ret (v := .tuple #[.bool a, v]) (by simp [results, Tryz.results138, go_sem]) rfl ?_
      rw [show addS a x b y = (a, x - y) from by simp [addS, HAB.out, HHC.out]]
      exact ⟨v, rfl, HV.out, HB.out⟩
    · have hcv : ¬ 0 ≤ cmpNat x y := by unfold cmpNat; split <;> omega
      have HHC := Lib.hid hc
      clear hc
      generalize cmpNat x y = cv at *
      go_enter Tryz.func138, Tryz.ntmps138
      go_wp2_with fail
      refine (HC.out w (Below.refl _ _)).mono ?_
      rintro e W1 ⟨rfl, q, rfl⟩
      go_wp2_with fail
      refine (HM'.out (by have := HHC.out; omega) _ (bdrewN (Below.refl _ _))).mono ?_
      rintro e W1 ⟨v, rfl, hv, hb⟩
      have HV := Lib.hid hv
      have HB := Lib.hid ((bdrewN (n := q) (Below.refl w.heap.size w)).trans hb)
      clear hv hb
      go_wp2_with fail
      refine bodyPost_ret (v := .tuple #[.bool b, v]) (by simp [results, Tryz.results138, go_sem]) rfl ?_
      rw [show addS a x b y = (b, y - x) from by simp [addS, HAB.out, HHC.out]]
      exact ⟨v, rfl, HV.out, HB.out⟩

end Go.Proofs.YtojploidgagmgaaGreatDoor

/- compareWide, timesWide, plusWide: numbers of any size. -/
namespace Go.Proofs.YtojploidgagmgaaGreatDoor
open Go Go.RowKit Go.Proofs Lim

theorem mul_lt_pow {x y j k : Nat} (hx : x < B ^ j) (hy : y < B ^ k) : x * y < B ^ (j + k) := by
  rw [Nat.pow_add]
  exact Nat.mul_lt_mul'' hx hy

theorem compareWide_any (v1 v2 : Value) (neg1 neg2 : Bool) (n1 d1 n2 d2 k : Nat) (w : World) (h1 : Num w v1 neg1 n1 d1) (h2 : Num w v2 neg2 n2 d2)
    (hn1 : n1 < B ^ k) (hd1 : d1 < B ^ k) (hn2 : n2 < B ^ k) (hd2 : d2 < B ^ k) (hk : (k : Int) ≤ 1073741824) :
    Calls Tryz.prog 105 #[v1, v2] w (Val w (.int .i64 (cmpNat (n1 * d2) (n2 * d1)))) := by
  have HP1 := Lib.hid (fun W (hW : Below w.heap.size w W) => parts_any v1 neg1 n1 d1 W (h1.below hW (Nat.le_refl _)))
  have HP2 := Lib.hid (fun W (hW : Below w.heap.size w W) => parts_any v2 neg2 n2 d2 W (h2.below hW (Nat.le_refl _)))
  obtain ⟨a1, b1, p1, rfl, _⟩ := h1.form
  obtain ⟨a2, b2, p2, rfl, _⟩ := h2.form
  have HT1 := Lib.hid (fun x y W (hx : IsNat W x n1) (hy : IsNat W y d2) => times_any x y n1 d2 k W hx hy hn1 hd2 hk)
  have HT2 := Lib.hid (fun x y W (hx : IsNat W x n2) (hy : IsNat W y d1) => times_any x y n2 d1 k W hx hy hn2 hd1 hk)
  clear h1 h2 hn1 hd1 hn2 hd2
  go_enter Tryz.func105, Tryz.ntmps105
  go_wp2_with fail
  obtain ⟨W0, hW0, hb0, ⟨f0, f1, f2, f3⟩, ⟨g0, g1, g2, g3⟩⟩ := box2 w (.bool neg1) (u a1) (u b1) (.pointer p1) (.bool neg2) (u a2) (u b2) (.pointer p2); rw [← hW0]; clear hW0
  refine (HP1.out _ hb0).mono ?_
  rintro e W1 ⟨x1, y1, rfl, hx1, hy1, hb⟩
  (obtain ⟨_, _, _, _⟩ := boxq (b := w.heap.size) hb (by assumption) (by assumption) (by assumption) (by assumption); obtain ⟨_, _, _, _⟩ := boxq (b := w.heap.size + 1) hb (by assumption) (by assumption) (by assumption) (by assumption))
  have hb1 := chain1 hb0 hb
  obtain ⟨xa1, xl1, xc1, rfl, _⟩ := hx1.form
  obtain ⟨ya1, yl1, yc1, rfl, _⟩ := hy1.form
  have HX1 := Lib.hid hx1
  have HY1 := Lib.hid hy1
  have HA1 := Lib.hid hb1
  clear hb0 hb hb1 hx1 hy1 f0 f1 f2 f3 g0 g1 g2 g3
  go_wp2_with fail
  refine (HP2.out _ HA1.out).mono ?_
  rintro e W2 ⟨x2, y2, rfl, hx2, hy2, hb⟩
  (obtain ⟨_, _, _, _⟩ := boxq (b := w.heap.size) hb (by assumption) (by assumption) (by assumption) (by assumption); obtain ⟨_, _, _, _⟩ := boxq (b := w.heap.size + 1) hb (by assumption) (by assumption) (by assumption) (by assumption))
  obtain ⟨xa2, xl2, xc2, rfl, _⟩ := hx2.form
  obtain ⟨ya2, yl2, yc2, rfl, _⟩ := hy2.form
  have HX1' := Lib.hid (HX1.out.below hb (Nat.le_refl _))
  have HY1' := Lib.hid (HY1.out.below hb (Nat.le_refl _))
  have HX2 := Lib.hid hx2
  have HY2 := Lib.hid hy2
  have HA2 := Lib.hid (chain1 HA1.out hb)
  clear hb hx2 hy2 HA1 HX1 HY1
  go_wp2_with fail
  refine (HT1.out _ _ _ HX1'.out HY2.out).mono ?_
  rintro e W3 ⟨z1, rfl, hz1, hb⟩
  obtain ⟨za1, zl1, zc1, rfl, _⟩ := hz1.form
  have HX2' := Lib.hid (HX2.out.below hb (Nat.le_refl _))
  have HY1'' := Lib.hid (HY1'.out.below hb (Nat.le_refl _))
  have HZ1 := Lib.hid hz1
  have HA3 := Lib.hid (chain1 HA2.out hb)
  clear hb hz1 HA2 HX1' HX2 HY1' HY2
  go_wp2_with fail
  refine (HT2.out _ _ _ HX2'.out HY1''.out).mono ?_
  rintro e W4 ⟨z2, rfl, hz2, hb⟩
  obtain ⟨za2, zl2, zc2, rfl, _⟩ := hz2.form
  have HZ1' := Lib.hid (HZ1.out.below hb (Nat.le_refl _))
  have HZ2 := Lib.hid hz2
  have HA4 := Lib.hid (chain1 HA3.out hb)
  clear hb hz2 HA3 HX2' HY1'' HZ1
  go_wp2_with fail
  refine (compare_any _ _ _ _ _ HZ1'.out HZ2.out).mono ?_
  rintro e W5 ⟨rfl, q, rfl⟩
  generalize cmpNat (n1 * d2) (n2 * d1) = cv at *
  go_wp2_with fail
  go_ret
  exact ⟨rfl, bdrewN HA4.out⟩

end Go.Proofs.YtojploidgagmgaaGreatDoor

/- natural.without: a division that comes out even. -/
namespace Go.Proofs.YtojploidgagmgaaGreatDoor
open Go Go.RowKit Go.Proofs Lim

theorem without_any (v1 v2 : Value) (m n k : Nat) (w : World) (h1 : IsNat w v1 m) (h2 : IsNat w v2 n) (hn : 0 < n) (hm : m < B ^ k) (hk : (k : Int) ≤ 1073741824) :
    Calls Tryz.prog 128 #[v1, v2] w (NatNew w (m / n)) := by
  have HOv := Lib.hid (over_any v1 v2 m n k w h1 h2 hn hm hk)
  have H1 := Lib.hid h1
  by_cases o2 : n = 1
  · have HI := Lib.hid (isOne_yes v2 n w h2 o2)
    subst o2
    obtain ⟨xs, ⟨⟨xa, xc, rfl, _⟩, _⟩, _⟩ := h1
    obtain ⟨ys, ⟨⟨ya, yc, rfl, _⟩, _⟩, _⟩ := h2
    clear hm hn hk HOv
    go_enter Tryz.func128, Tryz.ntmps128
    go_wp2_with fail
    refine HI.out.mono ?_
    rintro e w1 ⟨rfl, rfl⟩
    go_wp2_with fail
    go_ret
    refine ⟨_, rfl, ?_, Below.refl _ _⟩
    rw [Nat.div_one]
    exact H1.out
  · have HI := Lib.hid (isOne_no v2 n w h2 o2)
    obtain ⟨xs, ⟨⟨xa, xc, rfl, _⟩, _⟩, _⟩ := h1
    obtain ⟨ys, ⟨⟨ya, yc, rfl, _⟩, _⟩, _⟩ := h2
    clear hm hn hk o2
    go_enter Tryz.func128, Tryz.ntmps128
    go_wp2_with fail
    refine HI.out.mono ?_
    rintro e w1 ⟨rfl, rfl⟩
    go_wp2_with fail
    refine HOv.out.mono ?_
    rintro e w' ⟨q, r, rfl, hq, hr, hbel⟩
    have HQ := Lib.hid hq
    have HB := Lib.hid hbel
    clear hq hr hbel
    go_wp2_with fail
    go_ret
    exact ⟨q, rfl, HQ.out, HB.out⟩

end Go.Proofs.YtojploidgagmgaaGreatDoor

/- timesWide: products of numbers of any size. -/
namespace Go.Proofs.YtojploidgagmgaaGreatDoor
open Go Go.RowKit Go.Proofs Lim

set_option maxHeartbeats 3200000 in
theorem timesWide_any (v1 v2 : Value) (neg1 neg2 : Bool) (n1 d1 n2 d2 k : Nat) (w : World) (h1 : Num w v1 neg1 n1 d1) (h2 : Num w v2 neg2 n2 d2)
    (hn1 : n1 < B ^ k) (hd1 : d1 < B ^ k) (hn2 : n2 < B ^ k) (hd2 : d2 < B ^ k) (p1 : 0 < d1) (p2 : 0 < d2) (hk : (k : Int) ≤ 1073741824) (hG : Gr w) :
    Calls Tryz.prog 85 #[v1, v2] w (FracPost w (!neg1 == neg2) (n1 / Nat.gcd n1 d2 * (n2 / Nat.gcd n2 d1)) (d1 / Nat.gcd n2 d1 * (d2 / Nat.gcd n1 d2))) := by
  have HP1 := Lib.hid (fun W (hW : Below w.heap.size w W) => parts_any v1 neg1 n1 d1 W (h1.below hW (Nat.le_refl _)))
  have HP2 := Lib.hid (fun W (hW : Below w.heap.size w W) => parts_any v2 neg2 n2 d2 W (h2.below hW (Nat.le_refl _)))
  obtain ⟨a1, b1, q1, rfl, _⟩ := h1.form
  obtain ⟨a2, b2, q2, rfl, _⟩ := h2.form
  have HC1 := Lib.hid (fun x y W (hx : IsNat W x n1) (hy : IsNat W y d2) (hW : Below w.heap.size w W) => common_any x y n1 d2 k W hx hy hn1 hd2 hk (hG.below hW hG.size))
  have HC2 := Lib.hid (fun x y W (hx : IsNat W x n2) (hy : IsNat W y d1) (hW : Below w.heap.size w W) => common_any x y n2 d1 k W hx hy hn2 hd1 hk (hG.below hW hG.size))
  have hg1 : 0 < Nat.gcd n1 d2 := Nat.gcd_pos_of_pos_right _ p2
  have hg2 : 0 < Nat.gcd n2 d1 := Nat.gcd_pos_of_pos_right _ p1
  have hl1 : Nat.gcd n1 d2 ≤ d2 := Nat.gcd_le_right _ p2
  have hl2 : Nat.gcd n2 d1 ≤ d1 := Nat.gcd_le_right _ p1
  generalize Nat.gcd n1 d2 = g1 at *
  generalize Nat.gcd n2 d1 = g2 at *
  have HO1 := Lib.hid (fun x y W (hx : IsNat W x n1) (hy : IsNat W y g1) => without_any x y n1 g1 k W hx hy hg1 hn1 hk)
  have HO2 := Lib.hid (fun x y W (hx : IsNat W x n2) (hy : IsNat W y g2) => without_any x y n2 g2 k W hx hy hg2 hn2 hk)
  have HO3 := Lib.hid (fun x y W (hx : IsNat W x d1) (hy : IsNat W y g2) => without_any x y d1 g2 k W hx hy hg2 hd1 hk)
  have HO4 := Lib.hid (fun x y W (hx : IsNat W x d2) (hy : IsNat W y g1) => without_any x y d2 g1 k W hx hy hg1 hd2 hk)
  have l1 : n1 / g1 < B ^ k := Nat.lt_of_le_of_lt (Nat.div_le_self _ _) hn1
  have l2 : n2 / g2 < B ^ k := Nat.lt_of_le_of_lt (Nat.div_le_self _ _) hn2
  have l3 : d1 / g2 < B ^ k := Nat.lt_of_le_of_lt (Nat.div_le_self _ _) hd1
  have l4 : d2 / g1 < B ^ k := Nat.lt_of_le_of_lt (Nat.div_le_self _ _) hd2
  have hpos : 0 < d1 / g2 * (d2 / g1) := Nat.mul_pos (Nat.div_pos hl2 hg2) (Nat.div_pos hl1 hg1)
  generalize n1 / g1 = m1 at *
  generalize n2 / g2 = m2 at *
  generalize d1 / g2 = e1 at *
  generalize d2 / g1 = e2 at *
  have HT1 := Lib.hid (fun x y W (hx : IsNat W x m1) (hy : IsNat W y m2) => times_any x y m1 m2 k W hx hy l1 l2 hk)
  have HT2 := Lib.hid (fun x y W (hx : IsNat W x e1) (hy : IsNat W y e2) => times_any x y e1 e2 k W hx hy l3 l4 hk)
  have HF := Lib.hid (fun x y W (hx : IsNat W x (m1 * m2)) (hy : IsNat W y (e1 * e2)) => fraction_any (!neg1 == neg2) x y (m1 * m2) (e1 * e2) W hx hy hpos)
  clear h1 h2 hn1 hd1 hn2 hd2 hG hg1 hg2 hl1 hl2 l1 l2 l3 l4 hpos p1 p2
  generalize m1 * m2 = NUM at *
  generalize e1 * e2 = DEN at *
  go_enter Tryz.func85, Tryz.ntmps85
  go_wp2_with fail
  obtain ⟨W0, hW0, hb0, ⟨f0, f1, f2, f3⟩, ⟨g0, g1, g2, g3⟩, hz⟩ := box3 w (.bool neg1) (u a1) (u b1) (.pointer q1) (.bool neg2) (u a2) (u b2) (.pointer q2); rw [← hW0]; clear hW0; have HZ := Lib.hid hz; have HW0 := Lib.hid hb0; have hb0 := Below.refl W0.heap.size W0; clear hz
  refine (HP1.out _ (chain1 HW0.out hb0)).mono ?_
  rintro e W1 ⟨x1, y1, rfl, hx1, hy1, hb⟩
  (obtain ⟨_, _, _, _⟩ := boxq (b := w.heap.size) hb (by assumption) (by assumption) (by assumption) (by assumption); obtain ⟨_, _, _, _⟩ := boxq (b := w.heap.size + 1) hb (by assumption) (by assumption) (by assumption) (by assumption))
  obtain ⟨xa1, xl1, xc1, rfl, _⟩ := hx1.form
  obtain ⟨ya1, yl1, yc1, rfl, _⟩ := hy1.form
  have HX1 := Lib.hid hx1
  have HY1 := Lib.hid hy1
  have HA1 := Lib.hid (chain1 hb0 hb)
  clear hb0 hb hx1 hy1 f0 f1 f2 f3 g0 g1 g2 g3
  go_wp2_with fail
  refine (HP2.out _ (chain1 HW0.out HA1.out)).mono ?_
  rintro e W2 ⟨x2, y2, rfl, hx2, hy2, hb⟩
  (obtain ⟨_, _, _, _⟩ := boxq (b := w.heap.size) hb (by assumption) (by assumption) (by assumption) (by assumption); obtain ⟨_, _, _, _⟩ := boxq (b := w.heap.size + 1) hb (by assumption) (by assumption) (by assumption) (by assumption))
  obtain ⟨xa2, xl2, xc2, rfl, _⟩ := hx2.form
  obtain ⟨ya2, yl2, yc2, rfl, _⟩ := hy2.form
  have HX1 := Lib.hid (HX1.out.below hb (Nat.le_refl _))
  have HY1 := Lib.hid (HY1.out.below hb (Nat.le_refl _))
  have HX2 := Lib.hid hx2
  have HY2 := Lib.hid hy2
  have HA2 := Lib.hid (chain1 HA1.out hb)
  clear hb hx2 hy2 HA1
  have HA := HA2
  clear HA2
  go_wp2_with fail
  refine (HC1.out _ _ _ HX1.out HY2.out (chain1 HW0.out HA.out)).mono ?_
  rintro e W3 ⟨g, rfl, hv, hb⟩
  (obtain ⟨_, _, _, _⟩ := boxq (b := w.heap.size) hb (by assumption) (by assumption) (by assumption) (by assumption); obtain ⟨_, _, _, _⟩ := boxq (b := w.heap.size + 1) hb (by assumption) (by assumption) (by assumption) (by assumption))
  obtain ⟨_, _, _, rfl, _⟩ := hv.form
  have HX1 := Lib.hid (HX1.out.below hb (Nat.le_refl _))
  have HY1 := Lib.hid (HY1.out.below hb (Nat.le_refl _))
  have HX2 := Lib.hid (HX2.out.below hb (Nat.le_refl _))
  have HY2 := Lib.hid (HY2.out.below hb (Nat.le_refl _))
  have H_g := Lib.hid hv
  have HA := Lib.hid (chain1 HA.out hb)
  clear hb hv
  go_wp2_with fail
  refine (HC2.out _ _ _ HX2.out HY1.out (chain1 HW0.out HA.out)).mono ?_
  rintro e W4 ⟨h, rfl, hv, hb⟩
  (obtain ⟨_, _, _, _⟩ := boxq (b := w.heap.size) hb (by assumption) (by assumption) (by assumption) (by assumption); obtain ⟨_, _, _, _⟩ := boxq (b := w.heap.size + 1) hb (by assumption) (by assumption) (by assumption) (by assumption))
  obtain ⟨_, _, _, rfl, _⟩ := hv.form
  have HX1 := Lib.hid (HX1.out.below hb (Nat.le_refl _))
  have HY1 := Lib.hid (HY1.out.below hb (Nat.le_refl _))
  have HX2 := Lib.hid (HX2.out.below hb (Nat.le_refl _))
  have HY2 := Lib.hid (HY2.out.below hb (Nat.le_refl _))
  have H_g := Lib.hid (H_g.out.below hb (Nat.le_refl _))
  have H_h := Lib.hid hv
  have HA := Lib.hid (chain1 HA.out hb)
  clear hb hv
  go_wp2_with fail
  refine (HO1.out _ _ _ HX1.out H_g.out).mono ?_
  rintro e W5 ⟨r, rfl, hv, hb⟩
  (obtain ⟨_, _, _, _⟩ := boxq (b := w.heap.size) hb (by assumption) (by assumption) (by assumption) (by assumption); obtain ⟨_, _, _, _⟩ := boxq (b := w.heap.size + 1) hb (by assumption) (by assumption) (by assumption) (by assumption))
  obtain ⟨_, _, _, rfl, _⟩ := hv.form
  have HY1 := Lib.hid (HY1.out.below hb (Nat.le_refl _))
  have HX2 := Lib.hid (HX2.out.below hb (Nat.le_refl _))
  have HY2 := Lib.hid (HY2.out.below hb (Nat.le_refl _))
  have H_g := Lib.hid (H_g.out.below hb (Nat.le_refl _))
  have H_h := Lib.hid (H_h.out.below hb (Nat.le_refl _))
  have H_r := Lib.hid hv
  have HA := Lib.hid (chain1 HA.out hb)
  clear hb hv
  go_wp2_with fail
  refine (HO2.out _ _ _ HX2.out H_h.out).mono ?_
  rintro e W6 ⟨s, rfl, hv, hb⟩
  (obtain ⟨_, _, _, _⟩ := boxq (b := w.heap.size) hb (by assumption) (by assumption) (by assumption) (by assumption); obtain ⟨_, _, _, _⟩ := boxq (b := w.heap.size + 1) hb (by assumption) (by assumption) (by assumption) (by assumption))
  obtain ⟨_, _, _, rfl, _⟩ := hv.form
  have HY1 := Lib.hid (HY1.out.below hb (Nat.le_refl _))
  have HY2 := Lib.hid (HY2.out.below hb (Nat.le_refl _))
  have H_g := Lib.hid (H_g.out.below hb (Nat.le_refl _))
  have H_h := Lib.hid (H_h.out.below hb (Nat.le_refl _))
  have H_r := Lib.hid (H_r.out.below hb (Nat.le_refl _))
  have H_s := Lib.hid hv
  have HA := Lib.hid (chain1 HA.out hb)
  clear hb hv
  go_wp2_with fail
  refine (HT1.out _ _ _ H_r.out H_s.out).mono ?_
  rintro e W7 ⟨num, rfl, hv, hb⟩
  (obtain ⟨_, _, _, _⟩ := boxq (b := w.heap.size) hb (by assumption) (by assumption) (by assumption) (by assumption); obtain ⟨_, _, _, _⟩ := boxq (b := w.heap.size + 1) hb (by assumption) (by assumption) (by assumption) (by assumption))
  obtain ⟨_, _, _, rfl, _⟩ := hv.form
  have HY1 := Lib.hid (HY1.out.below hb (Nat.le_refl _))
  have HY2 := Lib.hid (HY2.out.below hb (Nat.le_refl _))
  have H_g := Lib.hid (H_g.out.below hb (Nat.le_refl _))
  have H_h := Lib.hid (H_h.out.below hb (Nat.le_refl _))
  have H_num := Lib.hid hv
  have HA := Lib.hid (chain1 HA.out hb)
  clear hb hv
  go_wp2_with fail
  refine (HO3.out _ _ _ HY1.out H_h.out).mono ?_
  rintro e W8 ⟨r, rfl, hv, hb⟩
  (obtain ⟨_, _, _, _⟩ := boxq (b := w.heap.size) hb (by assumption) (by assumption) (by assumption) (by assumption); obtain ⟨_, _, _, _⟩ := boxq (b := w.heap.size + 1) hb (by assumption) (by assumption) (by assumption) (by assumption))
  obtain ⟨_, _, _, rfl, _⟩ := hv.form
  have HY2 := Lib.hid (HY2.out.below hb (Nat.le_refl _))
  have H_g := Lib.hid (H_g.out.below hb (Nat.le_refl _))
  have H_num := Lib.hid (H_num.out.below hb (Nat.le_refl _))
  have H_r := Lib.hid hv
  have HA := Lib.hid (chain1 HA.out hb)
  clear hb hv
  go_wp2_with fail
  refine (HO4.out _ _ _ HY2.out H_g.out).mono ?_
  rintro e W9 ⟨s, rfl, hv, hb⟩
  (obtain ⟨_, _, _, _⟩ := boxq (b := w.heap.size) hb (by assumption) (by assumption) (by assumption) (by assumption); obtain ⟨_, _, _, _⟩ := boxq (b := w.heap.size + 1) hb (by assumption) (by assumption) (by assumption) (by assumption))
  obtain ⟨_, _, _, rfl, _⟩ := hv.form
  have H_num := Lib.hid (H_num.out.below hb (Nat.le_refl _))
  have H_r := Lib.hid (H_r.out.below hb (Nat.le_refl _))
  have H_s := Lib.hid hv
  have HA := Lib.hid (chain1 HA.out hb)
  clear hb hv
  go_wp2_with fail
  refine (HT2.out _ _ _ H_r.out H_s.out).mono ?_
  rintro e W10 ⟨den, rfl, hv, hb⟩
  (obtain ⟨_, _, _, _⟩ := boxq (b := w.heap.size) hb (by assumption) (by assumption) (by assumption) (by assumption); obtain ⟨_, _, _, _⟩ := boxq (b := w.heap.size + 1) hb (by assumption) (by assumption) (by assumption) (by assumption))
  obtain ⟨_, _, _, rfl, _⟩ := hv.form
  have H_num := Lib.hid (H_num.out.below hb (Nat.le_refl _))
  have H_den := Lib.hid hv
  have HA := Lib.hid (chain1 HA.out hb)
  clear hb hv
  go_wp2_with fail
  refine (HF.out _ _ _ H_num.out H_den.out).mono ?_
  rintro e W11 ⟨v, rfl, hN, hb⟩
  (obtain ⟨_, _, _, _⟩ := boxq (b := w.heap.size) hb (by assumption) (by assumption) (by assumption) (by assumption); obtain ⟨_, _, _, _⟩ := boxq (b := w.heap.size + 1) hb (by assumption) (by assumption) (by assumption) (by assumption))
  have hb3 := chain1 HA.out hb
  obtain ⟨a, b, p, rfl, _⟩ := hN.form
  have hz := HZ.out.below hb3 (Nat.le_refl _)
  have hfin := FracPost.stored (a0 := .bool ((!neg1 == neg2) && !decide (NUM = 0))) (a1 := u a) (a2 := u b) (a3 := .pointer p) hz hN (chain1 HW0.out hb3) (by omega)
  have HFin := Lib.hid hfin
  (have hz := HZ.out.below hb3 (Nat.le_refl _); have zf := hz.frozen; obtain ⟨z0, z1, z2, z3⟩ := hz.cells; have zf0 := zf 0; have zf1 := zf 1; have zf2 := zf 2; have zf3 := zf 3; clear zf hz)
  clear hfin hN hb hb3
  generalize ((!neg1 == neg2) && !decide (NUM = 0)) = sg at *
  go_wp2_with fail
  refine bodyPost_ret (v := .agg #[.bool sg, u a, u b, .pointer p]) (by simp [results, Tryz.results85, go_sem, z0, z1, z2, z3]) rfl ?_
  exact HFin.out

end Go.Proofs.YtojploidgagmgaaGreatDoor

/- plusWide: sums of numbers of any size. -/
namespace Go.Proofs.YtojploidgagmgaaGreatDoor
open Go Go.RowKit Go.Proofs Lim

theorem addS_lt {a b : Bool} {x y j : Nat} (hx : x < B ^ j) (hy : y < B ^ j) : (addS a x b y).2 < B ^ (j + 1) := by
  have h2 : 2 * B ^ j ≤ B ^ (j + 1) := by
    rw [Nat.pow_succ, Nat.mul_comm]
    exact Nat.mul_le_mul_left _ (by decide)
  have : (addS a x b y).2 ≤ x + y := by
    unfold addS
    split
    · exact Nat.le_refl _
    · split
      · show x - y ≤ x + y; omega
      · show y - x ≤ x + y; omega
  omega

set_option maxHeartbeats 3200000 in
theorem plusWide_any (v1 v2 : Value) (neg1 neg2 : Bool) (n1 d1 n2 d2 k : Nat) (w : World) (h1 : Num w v1 neg1 n1 d1) (h2 : Num w v2 neg2 n2 d2)
    (hn1 : n1 < B ^ k) (hd1 : d1 < B ^ k) (hn2 : n2 < B ^ k) (hd2 : d2 < B ^ k) (p1 : 0 < d1) (p2 : 0 < d2) (hk : ((k + k + 1 : Nat) : Int) ≤ 1073741824) (hG : Gr w) :
    Calls Tryz.prog 99 #[v1, v2] w (FracPost w (sumS neg1 n1 d1 neg2 n2 d2).1 (sumN neg1 n1 d1 neg2 n2 d2) (sumD neg1 n1 d1 neg2 n2 d2)) := by
  have HP1 := Lib.hid (fun W (hW : Below w.heap.size w W) => parts_any v1 neg1 n1 d1 W (h1.below hW (Nat.le_refl _)))
  have HP2 := Lib.hid (fun W (hW : Below w.heap.size w W) => parts_any v2 neg2 n2 d2 W (h2.below hW (Nat.le_refl _)))
  obtain ⟨a1, b1, q1, rfl, _⟩ := h1.form
  obtain ⟨a2, b2, q2, rfl, _⟩ := h2.form
  have hk1 : (k : Int) ≤ 1073741824 := by omega
  have hk2 : ((k + k : Nat) : Int) ≤ 1073741824 := by omega
  have HC1 := Lib.hid (fun x y W (hx : IsNat W x d1) (hy : IsNat W y d2) (hW : Below w.heap.size w W) => common_any x y d1 d2 k W hx hy hd1 hd2 hk1 (hG.below hW hG.size))
  have hg : 0 < Nat.gcd d1 d2 := Nat.gcd_pos_of_pos_right _ p2
  have hgl : Nat.gcd d1 d2 ≤ d1 := Nat.gcd_le_left _ p1
  have hdv : Nat.gcd d1 d2 ∣ d2 := Nat.gcd_dvd_right _ _
  unfold sumN sumD sumX sumS
  generalize Nat.gcd d1 d2 = g at *
  have HO1 := Lib.hid (fun x y W (hx : IsNat W x d1) (hy : IsNat W y g) => without_any x y d1 g k W hx hy hg hd1 hk1)
  have HO2 := Lib.hid (fun x y W (hx : IsNat W x d2) (hy : IsNat W y g) => without_any x y d2 g k W hx hy hg hd2 hk1)
  have l1 : d1 / g < B ^ k := Nat.lt_of_le_of_lt (Nat.div_le_self _ _) hd1
  have l2 : d2 / g < B ^ k := Nat.lt_of_le_of_lt (Nat.div_le_self _ _) hd2
  have hr1 : 0 < d1 / g := Nat.div_pos hgl hg
  generalize d1 / g = r1 at *
  generalize d2 / g = r2 at *
  have HT1 := Lib.hid (fun x y W (hx : IsNat W x n1) (hy : IsNat W y r2) => times_any x y n1 r2 k W hx hy hn1 l2 hk1)
  have HT2 := Lib.hid (fun x y W (hx : IsNat W x n2) (hy : IsNat W y r1) => times_any x y n2 r1 k W hx hy hn2 l1 hk1)
  have m1 : n1 * r2 < B ^ (k + k) := mul_lt_pow hn1 l2
  have m2 : n2 * r1 < B ^ (k + k) := mul_lt_pow hn2 l1
  generalize n1 * r2 = L at *
  generalize n2 * r1 = R at *
  have HAS := Lib.hid (fun x y W (hx : IsNat W x L) (hy : IsNat W y R) => addSigned_any neg1 neg2 x y L R (k + k) W hx hy m1 m2 hk2)
  have hsum := addS_lt (a := neg1) (b := neg2) m1 m2
  generalize (addS neg1 L neg2 R).1 = NEG at *
  generalize (addS neg1 L neg2 R).2 = S at *
  have hgB : g < B ^ (k + k + 1) := Nat.lt_of_le_of_lt hgl (Nat.lt_of_lt_of_le hd1 (Nat.pow_le_pow_right B_pos (by omega)))
  have HC2 := Lib.hid (fun x y W (hx : IsNat W x S) (hy : IsNat W y g) (hW : Below w.heap.size w W) => common_any x y S g (k + k + 1) W hx hy hsum hgB hk (hG.below hW hG.size))
  have hx0 : 0 < Nat.gcd S g := Nat.gcd_pos_of_pos_right _ hg
  have hxl : Nat.gcd S g ≤ d2 := Nat.le_trans (Nat.gcd_le_right _ hg) (Nat.le_of_dvd p2 hdv)
  generalize Nat.gcd S g = X at *
  have HO3 := Lib.hid (fun x y W (hx : IsNat W x S) (hy : IsNat W y X) => without_any x y S X (k + k + 1) W hx hy hx0 hsum hk)
  have HO4 := Lib.hid (fun x y W (hx : IsNat W x d2) (hy : IsNat W y X) => without_any x y d2 X k W hx hy hx0 hd2 hk1)
  have l4 : d2 / X < B ^ k := Nat.lt_of_le_of_lt (Nat.div_le_self _ _) hd2
  have hpos : 0 < r1 * (d2 / X) := Nat.mul_pos hr1 (Nat.div_pos hxl hx0)
  generalize d2 / X = E at *
  generalize S / X = NUM at *
  have HT3 := Lib.hid (fun x y W (hx : IsNat W x r1) (hy : IsNat W y E) => times_any x y r1 E k W hx hy l1 l4 hk1)
  have HF := Lib.hid (fun x y W (hx : IsNat W x NUM) (hy : IsNat W y (r1 * E)) => fraction_any NEG x y NUM (r1 * E) W hx hy hpos)
  generalize r1 * E = DEN at *
  clear h1 h2 hn1 hd1 hn2 hd2 hG hg hgl hdv l1 l2 hr1 m1 m2 hsum hgB hx0 hxl l4 hpos p1 p2 hk1 hk2
  go_enter Tryz.func99, Tryz.ntmps99
  go_wp2_with fail
  obtain ⟨W0, hW0, hb0, ⟨f0, f1, f2, f3⟩, ⟨g0, g1, g2, g3⟩, hz⟩ := box3 w (.bool neg1) (u a1) (u b1) (.pointer q1) (.bool neg2) (u a2) (u b2) (.pointer q2); rw [← hW0]; clear hW0; have HZ := Lib.hid hz; have HW0 := Lib.hid hb0; have hb0 := Below.refl W0.heap.size W0; clear hz
  refine (HP1.out _ (chain1 HW0.out hb0)).mono ?_
  rintro e W1 ⟨x1, y1, rfl, hx1, hy1, hb⟩
  (obtain ⟨_, _, _, _⟩ := boxq (b := w.heap.size) hb (by assumption) (by assumption) (by assumption) (by assumption); obtain ⟨_, _, _, _⟩ := boxq (b := w.heap.size + 1) hb (by assumption) (by assumption) (by assumption) (by assumption))
  obtain ⟨xa1, xl1, xc1, rfl, _⟩ := hx1.form
  obtain ⟨ya1, yl1, yc1, rfl, _⟩ := hy1.form
  have HX1 := Lib.hid hx1
  have HY1 := Lib.hid hy1
  have HA1 := Lib.hid (chain1 hb0 hb)
  clear hb0 hb hx1 hy1 f0 f1 f2 f3 g0 g1 g2 g3
  go_wp2_with fail
  refine (HP2.out _ (chain1 HW0.out HA1.out)).mono ?_
  rintro e W2 ⟨x2, y2, rfl, hx2, hy2, hb⟩
  (obtain ⟨_, _, _, _⟩ := boxq (b := w.heap.size) hb (by assumption) (by assumption) (by assumption) (by assumption); obtain ⟨_, _, _, _⟩ := boxq (b := w.heap.size + 1) hb (by assumption) (by assumption) (by assumption) (by assumption))
  obtain ⟨xa2, xl2, xc2, rfl, _⟩ := hx2.form
  obtain ⟨ya2, yl2, yc2, rfl, _⟩ := hy2.form
  have HX1 := Lib.hid (HX1.out.below hb (Nat.le_refl _))
  have HY1 := Lib.hid (HY1.out.below hb (Nat.le_refl _))
  have HX2 := Lib.hid hx2
  have HY2 := Lib.hid hy2
  have HA2 := Lib.hid (chain1 HA1.out hb)
  clear hb hx2 hy2 HA1
  have HA := HA2
  clear HA2
  go_wp2_with fail
  refine (HC1.out _ _ _ HY1.out HY2.out (chain1 HW0.out HA.out)).mono ?_
  rintro e W3 ⟨g, rfl, hv, hb⟩
  (obtain ⟨_, _, _, _⟩ := boxq (b := w.heap.size) hb (by assumption) (by assumption) (by assumption) (by assumption); obtain ⟨_, _, _, _⟩ := boxq (b := w.heap.size + 1) hb (by assumption) (by assumption) (by assumption) (by assumption))
  obtain ⟨_, _, _, rfl, _⟩ := hv.form
  have HX1 := Lib.hid (HX1.out.below hb (Nat.le_refl _))
  have HY1 := Lib.hid (HY1.out.below hb (Nat.le_refl _))
  have HX2 := Lib.hid (HX2.out.below hb (Nat.le_refl _))
  have HY2 := Lib.hid (HY2.out.below hb (Nat.le_refl _))
  have H_g := Lib.hid hv
  have HA := Lib.hid (chain1 HA.out hb)
  clear hb hv
  go_wp2_with fail
  refine (HO1.out _ _ _ HY1.out H_g.out).mono ?_
  rintro e W4 ⟨r, rfl, hv, hb⟩
  (obtain ⟨_, _, _, _⟩ := boxq (b := w.heap.size) hb (by assumption) (by assumption) (by assumption) (by assumption); obtain ⟨_, _, _, _⟩ := boxq (b := w.heap.size + 1) hb (by assumption) (by assumption) (by assumption) (by assumption))
  obtain ⟨_, _, _, rfl, _⟩ := hv.form
  have HX1 := Lib.hid (HX1.out.below hb (Nat.le_refl _))
  have HX2 := Lib.hid (HX2.out.below hb (Nat.le_refl _))
  have HY2 := Lib.hid (HY2.out.below hb (Nat.le_refl _))
  have H_g := Lib.hid (H_g.out.below hb (Nat.le_refl _))
  have H_r := Lib.hid hv
  have HA := Lib.hid (chain1 HA.out hb)
  clear hb hv
  go_wp2_with fail
  refine (HO2.out _ _ _ HY2.out H_g.out).mono ?_
  rintro e W5 ⟨s, rfl, hv, hb⟩
  (obtain ⟨_, _, _, _⟩ := boxq (b := w.heap.size) hb (by assumption) (by assumption) (by assumption) (by assumption); obtain ⟨_, _, _, _⟩ := boxq (b := w.heap.size + 1) hb (by assumption) (by assumption) (by assumption) (by assumption))
  obtain ⟨_, _, _, rfl, _⟩ := hv.form
  have HX1 := Lib.hid (HX1.out.below hb (Nat.le_refl _))
  have HX2 := Lib.hid (HX2.out.below hb (Nat.le_refl _))
  have HY2 := Lib.hid (HY2.out.below hb (Nat.le_refl _))
  have H_g := Lib.hid (H_g.out.below hb (Nat.le_refl _))
  have H_r := Lib.hid (H_r.out.below hb (Nat.le_refl _))
  have H_s := Lib.hid hv
  have HA := Lib.hid (chain1 HA.out hb)
  clear hb hv
  go_wp2_with fail
  go_region_held3 (fun w' => (w'.cell? ⟨w.heap.size, 0, none⟩ = some (.bool neg1) ∧ w'.cell? ⟨w.heap.size, 1, none⟩ = some (u a1) ∧ w'.cell? ⟨w.heap.size, 2, none⟩ = some (u b1) ∧ w'.cell? ⟨w.heap.size, 3, none⟩ = some (.pointer q1)) ∧ (w'.cell? ⟨w.heap.size + 1, 0, none⟩ = some (.bool neg2) ∧ w'.cell? ⟨w.heap.size + 1, 1, none⟩ = some (u a2) ∧ w'.cell? ⟨w.heap.size + 1, 2, none⟩ = some (u b2) ∧ w'.cell? ⟨w.heap.size + 1, 3, none⟩ = some (.pointer q2))) (go_keep) (first | ((with_reducible refine (HT1.out _ _ _ (HX1.out.below (Below.refl _ _).drew (Nat.le_refl _)) (H_s.out.below (Below.refl _ _).drew (Nat.le_refl _))).mono ?_); rintro e W6 ⟨a, rfl, ha, hb⟩; (obtain ⟨_, _, _, _⟩ := boxq (b := w.heap.size) hb (by assumption) (by assumption) (by assumption) (by assumption); obtain ⟨_, _, _, _⟩ := boxq (b := w.heap.size + 1) hb (by assumption) (by assumption) (by assumption) (by assumption)); obtain ⟨_, _, _, rfl, _⟩ := ha.form) | ((with_reducible refine (HT2.out _ _ _ (HX2.out.below (chain (Below.refl _ _) hb) (Nat.le_refl _)) (H_r.out.below (chain (Below.refl _ _) hb) (Nat.le_refl _))).mono ?_); rintro e W7 ⟨b, rfl, hv, hb'⟩; (obtain ⟨_, _, _, _⟩ := boxq (b := w.heap.size) hb' (by assumption) (by assumption) (by assumption) (by assumption); obtain ⟨_, _, _, _⟩ := boxq (b := w.heap.size + 1) hb' (by assumption) (by assumption) (by assumption) (by assumption)); obtain ⟨_, _, _, rfl, _⟩ := hv.form) | ((with_reducible refine (HAS.out _ _ _ (ha.below hb' (Nat.le_refl _)) hv).mono ?_); rintro e W8 ⟨t, rfl, ht, hb''⟩; (obtain ⟨_, _, _, _⟩ := boxq (b := w.heap.size) hb'' (by assumption) (by assumption) (by assumption) (by assumption); obtain ⟨_, _, _, _⟩ := boxq (b := w.heap.size + 1) hb'' (by assumption) (by assumption) (by assumption) (by assumption)); obtain ⟨_, _, _, rfl, _⟩ := ht.form))
  have hbb := chain1 (chain1 (chain (Below.refl _ _) hb) hb') hb''
  have HY2 := Lib.hid (HY2.out.below hbb (Nat.le_refl _))
  have H_g := Lib.hid (H_g.out.below hbb (Nat.le_refl _))
  have H_r := Lib.hid (H_r.out.below hbb (Nat.le_refl _))
  have H_t := Lib.hid ht
  have HA := Lib.hid (chain1 HA.out hbb)
  clear hb hb' hb'' hbb ha hv ht
  go_wp2_with fail
  refine (HC2.out _ _ _ H_t.out H_g.out (chain1 HW0.out HA.out)).mono ?_
  rintro e W9 ⟨x, rfl, hv, hb⟩
  (obtain ⟨_, _, _, _⟩ := boxq (b := w.heap.size) hb (by assumption) (by assumption) (by assumption) (by assumption); obtain ⟨_, _, _, _⟩ := boxq (b := w.heap.size + 1) hb (by assumption) (by assumption) (by assumption) (by assumption))
  obtain ⟨_, _, _, rfl, _⟩ := hv.form
  have HY2 := Lib.hid (HY2.out.below hb (Nat.le_refl _))
  have H_r := Lib.hid (H_r.out.below hb (Nat.le_refl _))
  have H_t := Lib.hid (H_t.out.below hb (Nat.le_refl _))
  have H_x := Lib.hid hv
  have HA := Lib.hid (chain1 HA.out hb)
  clear hb hv
  go_wp2_with fail
  refine (HO3.out _ _ _ H_t.out H_x.out).mono ?_
  rintro e W10 ⟨num, rfl, hv, hb⟩
  (obtain ⟨_, _, _, _⟩ := boxq (b := w.heap.size) hb (by assumption) (by assumption) (by assumption) (by assumption); obtain ⟨_, _, _, _⟩ := boxq (b := w.heap.size + 1) hb (by assumption) (by assumption) (by assumption) (by assumption))
  obtain ⟨_, _, _, rfl, _⟩ := hv.form
  have HY2 := Lib.hid (HY2.out.below hb (Nat.le_refl _))
  have H_r := Lib.hid (H_r.out.below hb (Nat.le_refl _))
  have H_x := Lib.hid (H_x.out.below hb (Nat.le_refl _))
  have H_num := Lib.hid hv
  have HA := Lib.hid (chain1 HA.out hb)
  clear hb hv
  go_wp2_with fail
  refine (HO4.out _ _ _ HY2.out H_x.out).mono ?_
  rintro e W11 ⟨q, rfl, hv, hb⟩
  (obtain ⟨_, _, _, _⟩ := boxq (b := w.heap.size) hb (by assumption) (by assumption) (by assumption) (by assumption); obtain ⟨_, _, _, _⟩ := boxq (b := w.heap.size + 1) hb (by assumption) (by assumption) (by assumption) (by assumption))
  obtain ⟨_, _, _, rfl, _⟩ := hv.form
  have H_r := Lib.hid (H_r.out.below hb (Nat.le_refl _))
  have H_num := Lib.hid (H_num.out.below hb (Nat.le_refl _))
  have H_q := Lib.hid hv
  have HA := Lib.hid (chain1 HA.out hb)
  clear hb hv
  go_wp2_with fail
  refine (HT3.out _ _ _ H_r.out H_q.out).mono ?_
  rintro e W12 ⟨den, rfl, hv, hb⟩
  (obtain ⟨_, _, _, _⟩ := boxq (b := w.heap.size) hb (by assumption) (by assumption) (by assumption) (by assumption); obtain ⟨_, _, _, _⟩ := boxq (b := w.heap.size + 1) hb (by assumption) (by assumption) (by assumption) (by assumption))
  obtain ⟨_, _, _, rfl, _⟩ := hv.form
  have H_num := Lib.hid (H_num.out.below hb (Nat.le_refl _))
  have H_den := Lib.hid hv
  have HA := Lib.hid (chain1 HA.out hb)
  clear hb hv
  go_wp2_with fail
  refine (HF.out _ _ _ H_num.out H_den.out).mono ?_
  rintro e W13 ⟨v, rfl, hN, hb⟩
  (obtain ⟨_, _, _, _⟩ := boxq (b := w.heap.size) hb (by assumption) (by assumption) (by assumption) (by assumption); obtain ⟨_, _, _, _⟩ := boxq (b := w.heap.size + 1) hb (by assumption) (by assumption) (by assumption) (by assumption))
  have hb3 := chain1 HA.out hb
  obtain ⟨a, b, p, rfl, _⟩ := hN.form
  have hz := HZ.out.below hb3 (Nat.le_refl _)
  have hfin := FracPost.stored (a0 := .bool (NEG && !decide (NUM = 0))) (a1 := u a) (a2 := u b) (a3 := .pointer p) hz hN (chain1 HW0.out hb3) (by omega)
  have HFin := Lib.hid hfin
  (have hz := HZ.out.below hb3 (Nat.le_refl _); have zf := hz.frozen; obtain ⟨z0, z1, z2, z3⟩ := hz.cells; have zf0 := zf 0; have zf1 := zf 1; have zf2 := zf 2; have zf3 := zf 3; clear zf hz)
  clear hfin hN hb hb3
  generalize (NEG && !decide (NUM = 0)) = sg at *
  go_wp2_with fail
  refine bodyPost_ret (v := .agg #[.bool sg, u a, u b, .pointer p]) (by simp [results, Tryz.results99, go_sem, z0, z1, z2, z3]) rfl ?_
  exact HFin.out

end Go.Proofs.YtojploidgagmgaaGreatDoor

/- The numbers of the code are the rational numbers: sums and products of parts. -/
namespace Go.Proofs.YtojploidgagmgaaGreatDoor
open Go Go.RowKit Go.Proofs Lim

/-- An integer from its sign and its size. -/
def sgn (neg : Bool) (n : Nat) : Int := if neg then -(n : Int) else (n : Int)

theorem sgn_abs (neg : Bool) (n : Nat) : (sgn neg n).natAbs = n := by unfold sgn; split <;> omega
theorem sgn_neg (neg : Bool) (n : Nat) : decide (sgn neg n < 0) = (neg && !decide (n = 0)) := by
  unfold sgn
  cases neg
  · simp
  · rw [Bool.eq_iff_iff]
    simp
    omega
theorem sgn_self (i : Int) : sgn (decide (i < 0)) i.natAbs = i := by
  unfold sgn
  by_cases h : i < 0
  · simp only [h, decide_true, if_true]; omega
  · simp only [h, decide_false, Bool.false_eq_true, if_false]; omega

theorem sgn_addS (a b : Bool) (x y : Nat) : sgn (addS a x b y).1 (addS a x b y).2 = sgn a x + sgn b y := by
  unfold addS sgn
  by_cases h : y ≤ x <;> cases a <;> cases b <;> simp [h] <;> omega

theorem rat_eq {r : Rat} {N : Int} {D : Nat} (hD : 0 < D) (hc : N.natAbs.Coprime D) (P : Int) (Q : Nat) (hQ : Q ≠ 0) (hr : r = mkRat P Q) (h : P * D = N * Q) : r.num = N ∧ r.den = D := by
  have hq : r = ⟨N, D, Nat.ne_of_gt hD, hc⟩ := by
    rw [hr, ← Rat.mkRat_self ⟨N, D, Nat.ne_of_gt hD, hc⟩]
    exact (Rat.mkRat_eq_iff hQ (Nat.ne_of_gt hD)).2 h
  subst hq
  exact ⟨rfl, rfl⟩

/-- The sign of a number, as its form has it. -/
abbrev neg? (r : Rat) : Bool := decide (r.num < 0)

theorem add_parts (a b : Rat) :
    (a + b).num = sgn (sumS (neg? a) a.num.natAbs a.den (neg? b) b.num.natAbs b.den).1 (sumN (neg? a) a.num.natAbs a.den (neg? b) b.num.natAbs b.den) ∧
      (a + b).den = sumD (neg? a) a.num.natAbs a.den (neg? b) b.num.natAbs b.den := by
  have hg : 0 < Nat.gcd a.den b.den := Nat.gcd_pos_of_pos_right _ b.den_pos
  have haux := Rat.add.aux a b (g := Nat.gcd a.den b.den) rfl rfl rfl
  simp only at haux
  have e1 : a.den / Nat.gcd a.den b.den * Nat.gcd a.den b.den = a.den := Nat.div_mul_cancel (Nat.gcd_dvd_left _ _)
  have e2 : b.den / Nat.gcd a.den b.den * Nat.gcd a.den b.den = b.den := Nat.div_mul_cancel (Nat.gcd_dvd_right _ _)
  have hdvd := Nat.gcd_dvd_right a.den b.den
  have hr1 : 0 < a.den / Nat.gcd a.den b.den := Nat.div_pos (Nat.gcd_le_left _ a.den_pos) hg
  have hsum := sgn_addS (neg? a) (neg? b) (a.num.natAbs * (b.den / Nat.gcd a.den b.den)) (b.num.natAbs * (a.den / Nat.gcd a.den b.den))
  have hm : ∀ (i : Int) (x : Nat), sgn (decide (i < 0)) (i.natAbs * x) = i * x := by
    intro i x
    have := sgn_self i
    unfold sgn at this ⊢
    split
    · rename_i h; rw [if_pos h] at this; rw [Int.natCast_mul, ← Int.neg_mul, this]
    · rename_i h; rw [if_neg h] at this; rw [Int.natCast_mul, this]
  rw [hm, hm] at hsum
  have hb := b.den_pos
  have hnz : a.den * b.den ≠ 0 := Nat.ne_of_gt (Nat.mul_pos a.den_pos b.den_pos)
  have hdef := Rat.add_def' a b
  unfold sumN sumD sumX sumS
  rw [← hsum] at haux
  rw [sgn_abs] at haux
  generalize hSS : addS (neg? a) (a.num.natAbs * (b.den / Nat.gcd a.den b.den)) (neg? b) (b.num.natAbs * (a.den / Nat.gcd a.den b.den)) = S at *
  generalize Nat.gcd a.den b.den = g at *
  generalize a.den / g = r1 at *
  generalize b.den / g = r2 at *
  have hX0 : 0 < Nat.gcd S.2 g := Nat.gcd_pos_of_pos_right _ hg
  have hXb : Nat.gcd S.2 g ∣ b.den := Nat.dvd_trans (Nat.gcd_dvd_right _ _) hdvd
  have hXS : S.2 / Nat.gcd S.2 g * Nat.gcd S.2 g = S.2 := Nat.div_mul_cancel (Nat.gcd_dvd_left _ _)
  have hXE : b.den / Nat.gcd S.2 g * Nat.gcd S.2 g = b.den := Nat.div_mul_cancel hXb
  have hcop : Nat.Coprime (S.2 / Nat.gcd S.2 g) (r1 * (b.den / Nat.gcd S.2 g)) := by
    rw [← Nat.mul_div_assoc _ hXb, haux]
    refine Nat.coprime_div_gcd_div_gcd ?_
    rw [← haux]; exact hX0
  have hE0 : 0 < b.den / Nat.gcd S.2 g := Nat.div_pos (Nat.le_of_dvd hb hXb) hX0
  generalize Nat.gcd S.2 g = X at *
  generalize S.2 / X = N at *
  generalize hE : b.den / X = E at *
  refine rat_eq (Nat.mul_pos hr1 hE0) (by rw [sgn_abs]; exact hcop) _ _ hnz hdef ?_
  have hs : sgn S.1 S.2 = sgn S.1 N * X := by
    unfold sgn
    rw [← hXS]
    split <;> rw [Int.natCast_mul]
    rw [Int.neg_mul]
  rw [hs] at hsum
  generalize sgn S.1 N = NN at *
  generalize a.num = an at *
  generalize b.num = bn at *
  rw [← e1]
  have e2' : ((b.den : Nat) : Int) = (r2 : Int) * g := by rw [← e2]; simp
  have e3' : ((b.den : Nat) : Int) = (E : Int) * X := by rw [← hXE]; simp
  simp only [Int.natCast_mul]
  generalize ((b.den : Nat) : Int) = bd at *
  grind

theorem mul_parts (a b : Rat) :
    (a * b).num = sgn (!neg? a == neg? b) (a.num.natAbs / Nat.gcd a.num.natAbs b.den * (b.num.natAbs / Nat.gcd b.num.natAbs a.den)) ∧
      (a * b).den = a.den / Nat.gcd b.num.natAbs a.den * (b.den / Nat.gcd a.num.natAbs b.den) := by
  have hg1 : 0 < Nat.gcd a.num.natAbs b.den := Nat.gcd_pos_of_pos_right _ b.den_pos
  have hg2 : 0 < Nat.gcd b.num.natAbs a.den := Nat.gcd_pos_of_pos_right _ a.den_pos
  have hc : ((a.num.natAbs / Nat.gcd a.num.natAbs b.den) * (b.num.natAbs / Nat.gcd b.num.natAbs a.den)).Coprime ((a.den / Nat.gcd b.num.natAbs a.den) * (b.den / Nat.gcd a.num.natAbs b.den)) := by
    rw [Nat.coprime_mul_iff_left]
    refine ⟨Nat.coprime_mul_iff_right.2 ⟨?_, ?_⟩, Nat.coprime_mul_iff_right.2 ⟨?_, ?_⟩⟩
    · exact a.reduced.coprime_div_left (Nat.gcd_dvd_left ..) |>.coprime_div_right (Nat.gcd_dvd_right ..)
    · exact Nat.coprime_div_gcd_div_gcd hg1
    · exact Nat.coprime_div_gcd_div_gcd hg2
    · exact b.reduced.coprime_div_left (Nat.gcd_dvd_left ..) |>.coprime_div_right (Nat.gcd_dvd_right ..)
  have e1 : a.num.natAbs / Nat.gcd a.num.natAbs b.den * Nat.gcd a.num.natAbs b.den = a.num.natAbs := Nat.div_mul_cancel (Nat.gcd_dvd_left _ _)
  have e2 : b.num.natAbs / Nat.gcd b.num.natAbs a.den * Nat.gcd b.num.natAbs a.den = b.num.natAbs := Nat.div_mul_cancel (Nat.gcd_dvd_left _ _)
  have e3 : a.den / Nat.gcd b.num.natAbs a.den * Nat.gcd b.num.natAbs a.den = a.den := Nat.div_mul_cancel (Nat.gcd_dvd_right _ _)
  have e4 : b.den / Nat.gcd a.num.natAbs b.den * Nat.gcd a.num.natAbs b.den = b.den := Nat.div_mul_cancel (Nat.gcd_dvd_right _ _)
  have p3 : 0 < a.den / Nat.gcd b.num.natAbs a.den := Nat.div_pos (Nat.gcd_le_right _ a.den_pos) hg2
  have p4 : 0 < b.den / Nat.gcd a.num.natAbs b.den := Nat.div_pos (Nat.gcd_le_right _ b.den_pos) hg1
  have hnz : a.den * b.den ≠ 0 := Nat.ne_of_gt (Nat.mul_pos a.den_pos b.den_pos)
  have hdef := Rat.mul_def' a b
  have ha := sgn_self a.num
  have hb := sgn_self b.num
  generalize Nat.gcd a.num.natAbs b.den = g1 at *
  generalize Nat.gcd b.num.natAbs a.den = g2 at *
  generalize a.num.natAbs / g1 = m1 at *
  generalize b.num.natAbs / g2 = m2 at *
  generalize a.den / g2 = q1 at *
  generalize b.den / g1 = q2 at *
  refine rat_eq (Nat.mul_pos p3 p4) (by rw [sgn_abs]; exact hc) _ _ hnz hdef ?_
  have hs : a.num * b.num = sgn (!neg? a == neg? b) (m1 * m2) * (g1 * g2) := by
    rw [← ha, ← hb, ← e1, ← e2]
    unfold sgn
    by_cases h1 : a.num < 0 <;> by_cases h2 : b.num < 0 <;> simp [h1, h2] <;> grind
  rw [hs, ← e3, ← e4]
  simp only [Int.natCast_mul]
  grind

/-- The numbers that FracPost tells are those of a rational number. -/
theorem FracPost.q {w w' : World} {neg : Bool} {n d : Nat} {e : Ending} {r : Rat} (h : FracPost w neg n d e w') (hn : r.num = sgn neg n) (hd : r.den = d) : QNew w r e w' := by
  obtain ⟨v, he, hN, hb⟩ := h
  refine ⟨v, he, ?_, hb⟩
  unfold IsQ
  rw [hn, sgn_abs, sgn_neg]
  have : r.den = if n = 0 then 1 else d := by
    split
    · rename_i h0
      have hz : r.num = 0 := by rw [hn, h0]; unfold sgn; simp
      have := r.reduced
      rw [hz] at this
      simpa using this
    · exact hd
  rw [this]
  exact hN

end Go.Proofs.YtojploidgagmgaaGreatDoor

/- Q.Plus: the sum of two numbers. -/
namespace Go.Proofs.YtojploidgagmgaaGreatDoor
open Go Go.RowKit Go.Proofs Lim

/-- A value that is stored in a fresh box and returned. -/
theorem QNew.stored {w W : World} {R : Nat} {v : Value} {r : Rat} {a0 a1 a2 a3 : Value} (hR : Box W R (.bool false) (.int .u64 0) (.int .u64 0) (.pointer none))
    (h : IsQ W v r) (hb : Below w.heap.size w W) (hw : w.heap.size ≤ R) :
    QNew w r (.returned v) ((((W.setCell ⟨R, 0, none⟩ a0).setCell ⟨R, 1, none⟩ a1).setCell ⟨R, 2, none⟩ a2).setCell ⟨R, 3, none⟩ a3) := by
  have ho := ((((Only.refl R W).set 0 a0).set 1 a1).set 2 a2).set 3 a3
  exact ⟨v, rfl, Num.only hR h ho, hb.trans (ho.below hw)⟩

theorem IsQ.form {w : World} {v : Value} {r : Rat} (h : IsQ w v r) : ∃ sg a b p, v = .agg #[.bool sg, u a, u b, .pointer p] := by
  obtain ⟨a, b, p, h, _⟩ := Num.form h
  exact ⟨_, a, b, p, h⟩

theorem plusWide_q (v1 v2 : Value) (r s : Rat) (k : Nat) (w : World) (h1 : IsQ w v1 r) (h2 : IsQ w v2 s) (z1 : Siz r k) (z2 : Siz s k) (hk : ((k + k + 1 : Nat) : Int) ≤ 1073741824) (hG : Gr w) :
    Calls Tryz.prog 99 #[v1, v2] w (QNew w (r + s)) :=
  (plusWide_any v1 v2 _ _ _ _ _ _ k w h1 h2 z1.1 z1.2 z2.1 z2.2 r.den_pos s.den_pos hk hG).mono fun _ _ h => h.q (add_parts r s).1 (add_parts r s).2

theorem timesWide_q (v1 v2 : Value) (r s : Rat) (k : Nat) (w : World) (h1 : IsQ w v1 r) (h2 : IsQ w v2 s) (z1 : Siz r k) (z2 : Siz s k) (hk : (k : Int) ≤ 1073741824) (hG : Gr w) :
    Calls Tryz.prog 85 #[v1, v2] w (QNew w (r * s)) :=
  (timesWide_any v1 v2 _ _ _ _ _ _ k w h1 h2 z1.1 z1.2 z2.1 z2.2 r.den_pos s.den_pos hk hG).mono fun _ _ h => h.q (mul_parts r s).1 (mul_parts r s).2

/-- What an operation on small numbers leaves, in terms of the result. -/
def SmallQ (w : World) (r : Rat) (e : Ending) (w' : World) : Prop :=
  ∃ a b c, ∃ ok : Bool, e = .returned (.tuple #[lo a b c, .bool ok]) ∧ (ok = true → ∀ W, IsQ W (lo a b c) r) ∧ Below w.heap.size w w'

theorem SmallPost.q {w w' : World} {neg : Bool} {n d : Nat} {e : Ending} {r : Rat} (h : SmallPost w neg n d e w') (hn : r.num = sgn neg n) (hd : r.den = d) : SmallQ w r e w' := by
  obtain ⟨a, b, c, ok, he, h1, h2, hb⟩ := h
  refine ⟨a, b, c, ok, he, fun hok W => ?_, hb⟩
  obtain ⟨i1, i2⟩ := h2 hok
  obtain ⟨j1, j2, j3⟩ := h1 hok ⟨i1, i2, hd ▸ r.den_pos⟩
  unfold IsQ
  rw [hn, sgn_abs, sgn_neg, ← j1, hd, ← j2]
  exact Num.low c rfl j3.symm (j2 ▸ i1) i2

/-- The two forms of a number. -/
theorem IsQ.forms {w : World} {v : Value} {r : Rat} (h : IsQ w v r) :
    (∃ l, v = lo (neg? r) r.num.natAbs l ∧ r.den = l + 1 ∧ r.num.natAbs < B ∧ r.den < B) ∨ (∃ b, v = wi (neg? r) ⟨b, 0, none⟩) := by
  cases h with
  | low l hv hd hn hdB => exact .inl ⟨l, hv, hd, hn, hdB⟩
  | wide b x y hv hx hy h1 h2 hB h0 hd => exact .inr ⟨b, hv⟩

theorem plusSmall_q (r s : Rat) (l1 l2 : Nat) (w : World) (d1 : r.den = l1 + 1) (d2 : s.den = l2 + 1) (h1 : r.num.natAbs < B) (h2 : r.den < B) (h3 : s.num.natAbs < B) (h4 : s.den < B) (hG : Gr w) :
    Calls Tryz.prog 98 #[lo (neg? r) r.num.natAbs l1, lo (neg? s) s.num.natAbs l2] w (SmallQ w (r + s)) := by
  refine (plusSmall_any (neg? r) (neg? s) _ l1 _ l2 h1 (d1 ▸ h2) h3 (d2 ▸ h4) w hG).mono fun _ _ h => ?_
  rw [← d1, ← d2] at h
  exact h.q (add_parts r s).1 (add_parts r s).2

theorem timesSmall_q (r s : Rat) (l1 l2 : Nat) (w : World) (d1 : r.den = l1 + 1) (d2 : s.den = l2 + 1) (h1 : r.num.natAbs < B) (h2 : r.den < B) (h3 : s.num.natAbs < B) (h4 : s.den < B) (hG : Gr w) :
    Calls Tryz.prog 103 #[lo (neg? r) r.num.natAbs l1, lo (neg? s) s.num.natAbs l2] w (SmallQ w (r * s)) := by
  refine (timesSmall_any (neg? r) (neg? s) _ l1 _ l2 h1 (d1 ▸ h2) h3 (d2 ▸ h4) w hG).mono fun _ _ h => ?_
  rw [← d1, ← d2] at h
  refine h.q ?_ (mul_parts r s).2
  have := (mul_parts r s).1
  rw [this]
  congr 1

theorem plus_q (v1 v2 : Value) (r s : Rat) (k : Nat) (w : World) (h1 : IsQ w v1 r) (h2 : IsQ w v2 s) (z1 : Siz r k) (z2 : Siz s k) (hk : ((k + k + 1 : Nat) : Int) ≤ 1073741824) (hG : Gr w) :
    Calls Tryz.prog 29 #[v1, v2] w (QNew w (r + s)) := by
  have HW := Lib.hid (fun W (hW : Below w.heap.size w W) => plusWide_q v1 v2 r s k W (h1.below hW (Nat.le_refl _)) (h2.below hW (Nat.le_refl _)) z1 z2 hk (hG.below hW hG.size))
  rcases h1.forms with ⟨l1, rfl, d1, i1, j1⟩ | ⟨b1, rfl⟩
  · rcases h2.forms with ⟨l2, rfl, d2, i2, j2⟩ | ⟨b2, rfl⟩
    · have HS := Lib.hid (fun W (hW : Below w.heap.size w W) => plusSmall_q r s l1 l2 W d1 d2 i1 j1 i2 j2 (hG.below hW hG.size))
      clear h1 h2 z1 z2 hk hG d1 d2 j1 j2
      generalize neg? r = neg1 at *
      generalize neg? s = neg2 at *
      generalize r.num.natAbs = n1 at *
      generalize s.num.natAbs = n2 at *
      generalize r + s = t at *
      go_enter Tryz.func29, Tryz.ntmps29
      go_wp2_with fail
      obtain ⟨W0, hW0, hb0, ⟨f0, f1, f2, f3⟩, ⟨g0, g1, g2, g3⟩, hz⟩ := box3 w (.bool neg1) (u n1) (u l1) (.pointer none) (.bool neg2) (u n2) (u l2) (.pointer none); rw [← hW0]; clear hW0; have HZ := Lib.hid hz; have HW0 := Lib.hid hb0; have hb0 := Below.refl W0.heap.size W0; clear hz
      refine (HS.out _ (chain1 HW0.out hb0)).mono ?_
      rintro e W1 ⟨a, b, c, ok, rfl, hok, hb⟩
      (obtain ⟨_, _, _, _⟩ := boxq (b := w.heap.size) hb (by assumption) (by assumption) (by assumption) (by assumption); obtain ⟨_, _, _, _⟩ := boxq (b := w.heap.size + 1) hb (by assumption) (by assumption) (by assumption) (by assumption))
      have HA := Lib.hid (chain1 hb0 hb)
      have HOK := Lib.hid hok
      clear hb0 hb hok f0 f1 f2 f3 g0 g1 g2 g3
      (have hz := HZ.out.below HA.out (Nat.le_refl _); have zf := hz.frozen; obtain ⟨z0, z1, z2, z3⟩ := hz.cells; have zf0 := zf 0; have zf1 := zf 1; have zf2 := zf 2; have zf3 := zf 3; clear zf hz)
      have q0 : w.heap.size < W1.heap.size := World.block_lt_of_cell? W1 ⟨w.heap.size, 0, none⟩ (by assumption)
      have q1 : w.heap.size + 1 < W1.heap.size := World.block_lt_of_cell? W1 ⟨w.heap.size + 1, 0, none⟩ (by assumption)
      have q2 : w.heap.size + 1 + 1 < W1.heap.size := World.block_lt_of_cell? W1 ⟨w.heap.size + 1 + 1, 0, none⟩ z0
      cases ok
      · go_wp2_with fail
        have HA' := Lib.hid (chain1 HA.out (below1 W1 (.cells #[.bool a, .int .u64 (b : Int), .int .u64 (c : Int), .pointer none] 26)))
        clear z0 z1 z2 z3 zf0 zf1 zf2 zf3 q0 q1 q2
        refine (HW.out _ (chain1 HW0.out HA'.out)).mono ?_
        rintro e W9 ⟨v, rfl, hN, hb⟩
        have hb3 := chain1 HA'.out hb
        have hN' := hN
        obtain ⟨sg, a9, b9, p9, rfl⟩ := hN'.form
        have hz := HZ.out.below hb3 (Nat.le_refl _)
        have hfin := QNew.stored (a0 := .bool sg) (a1 := u a9) (a2 := u b9) (a3 := .pointer p9) hz hN (chain1 HW0.out hb3) (by omega)
        have HFin := Lib.hid hfin
        (have hz := HZ.out.below hb3 (Nat.le_refl _); have zf := hz.frozen; obtain ⟨z0, z1, z2, z3⟩ := hz.cells; have zf0 := zf 0; have zf1 := zf 1; have zf2 := zf 2; have zf3 := zf 3; clear zf hz)
        clear hfin hN hN' hb hb3
        go_wp2_with fail
        refine bodyPost_ret (v := .agg #[.bool sg, u a9, u b9, .pointer p9]) (by simp [results, Tryz.results29, go_sem, z0, z1, z2, z3]) rfl ?_
        exact HFin.out
      · have hT := HOK.out rfl
        have HT := Lib.hid hT
        clear hT
        go_wp2_with fail
        refine bodyPost_ret (v := lo a b c) (by simp [results, Tryz.results29, go_sem, z0, z1, z2, z3, q2]) rfl ?_
        exact ⟨_, rfl, HT.out _, (store4 HW0.out HA.out (by omega) _ _ _ _).trans ((below1 _ _).mono (store4 HW0.out HA.out (by omega) _ _ _ _).size)⟩
    · clear h1 h2 z1 z2 hk hG
      generalize neg? r = neg1 at *
      generalize neg? s = neg2 at *
      generalize r.num.natAbs = n1 at *
      generalize r + s = t at *
      clear d1 i1 j1
      go_enter Tryz.func29, Tryz.ntmps29
      go_wp2_with fail
      obtain ⟨W0, hW0, hb0, ⟨f0, f1, f2, f3⟩, ⟨g0, g1, g2, g3⟩, hz⟩ := box3 w (.bool neg1) (u n1) (u l1) (.pointer none) (.bool neg2) (u 0) (u 0) (.pointer (some ⟨b2, 0, none⟩)); rw [← hW0]; clear hW0; have HZ := Lib.hid hz; have HW0 := Lib.hid hb0; have hb0 := Below.refl W0.heap.size W0; clear hz
      refine (HW.out _ (chain1 HW0.out hb0)).mono ?_
      rintro e W9 ⟨v, rfl, hN, hb⟩
      have hb3 := chain1 hb0 hb
      have hN' := hN
      obtain ⟨sg, a9, b9, p9, rfl⟩ := hN'.form
      have hz := HZ.out.below hb3 (Nat.le_refl _)
      have hfin := QNew.stored (a0 := .bool sg) (a1 := u a9) (a2 := u b9) (a3 := .pointer p9) hz hN (chain1 HW0.out hb3) (by omega)
      have HFin := Lib.hid hfin
      (have hz := HZ.out.below hb3 (Nat.le_refl _); have zf := hz.frozen; obtain ⟨z0, z1, z2, z3⟩ := hz.cells; have zf0 := zf 0; have zf1 := zf 1; have zf2 := zf 2; have zf3 := zf 3; clear zf hz)
      clear hfin hN hN' hb hb3
      go_wp2_with fail
      refine bodyPost_ret (v := .agg #[.bool sg, u a9, u b9, .pointer p9]) (by simp [results, Tryz.results29, go_sem, z0, z1, z2, z3]) rfl ?_
      exact HFin.out
  · obtain ⟨neg2, a2, b2, p2, rfl⟩ := h2.form
    clear h1 h2 z1 z2 hk hG
    generalize neg? r = neg1 at *
    generalize r + s = t at *
    go_enter Tryz.func29, Tryz.ntmps29
    go_wp2_with fail
    obtain ⟨W0, hW0, hb0, ⟨f0, f1, f2, f3⟩, ⟨g0, g1, g2, g3⟩, hz⟩ := box3 w (.bool neg1) (u 0) (u 0) (.pointer (some ⟨b1, 0, none⟩)) (.bool neg2) (u a2) (u b2) (.pointer p2); rw [← hW0]; clear hW0; have HZ := Lib.hid hz; have HW0 := Lib.hid hb0; have hb0 := Below.refl W0.heap.size W0; clear hz
    refine (HW.out _ (chain1 HW0.out hb0)).mono ?_
    rintro e W9 ⟨v, rfl, hN, hb⟩
    have hb3 := chain1 hb0 hb
    have hN' := hN
    obtain ⟨sg, a9, b9, p9, rfl⟩ := hN'.form
    have hz := HZ.out.below hb3 (Nat.le_refl _)
    have hfin := QNew.stored (a0 := .bool sg) (a1 := u a9) (a2 := u b9) (a3 := .pointer p9) hz hN (chain1 HW0.out hb3) (by omega)
    have HFin := Lib.hid hfin
    (have hz := HZ.out.below hb3 (Nat.le_refl _); have zf := hz.frozen; obtain ⟨z0, z1, z2, z3⟩ := hz.cells; have zf0 := zf 0; have zf1 := zf 1; have zf2 := zf 2; have zf3 := zf 3; clear zf hz)
    clear hfin hN hN' hb hb3
    go_wp2_with fail
    refine bodyPost_ret (v := .agg #[.bool sg, u a9, u b9, .pointer p9]) (by simp [results, Tryz.results29, go_sem, z0, z1, z2, z3]) rfl ?_
    exact HFin.out

theorem times_q (v1 v2 : Value) (r s : Rat) (k : Nat) (w : World) (h1 : IsQ w v1 r) (h2 : IsQ w v2 s) (z1 : Siz r k) (z2 : Siz s k) (hk : (k : Int) ≤ 1073741824) (hG : Gr w) :
    Calls Tryz.prog 33 #[v1, v2] w (QNew w (r * s)) := by
  have HW := Lib.hid (fun W (hW : Below w.heap.size w W) => timesWide_q v1 v2 r s k W (h1.below hW (Nat.le_refl _)) (h2.below hW (Nat.le_refl _)) z1 z2 hk (hG.below hW hG.size))
  rcases h1.forms with ⟨l1, rfl, d1, i1, j1⟩ | ⟨b1, rfl⟩
  · rcases h2.forms with ⟨l2, rfl, d2, i2, j2⟩ | ⟨b2, rfl⟩
    · have HS := Lib.hid (fun W (hW : Below w.heap.size w W) => timesSmall_q r s l1 l2 W d1 d2 i1 j1 i2 j2 (hG.below hW hG.size))
      clear h1 h2 z1 z2 hk hG d1 d2 j1 j2
      generalize neg? r = neg1 at *
      generalize neg? s = neg2 at *
      generalize r.num.natAbs = n1 at *
      generalize s.num.natAbs = n2 at *
      generalize r * s = t at *
      go_enter Tryz.func33, Tryz.ntmps33
      go_wp2_with fail
      obtain ⟨W0, hW0, hb0, ⟨f0, f1, f2, f3⟩, ⟨g0, g1, g2, g3⟩, hz⟩ := box3 w (.bool neg1) (u n1) (u l1) (.pointer none) (.bool neg2) (u n2) (u l2) (.pointer none); rw [← hW0]; clear hW0; have HZ := Lib.hid hz; have HW0 := Lib.hid hb0; have hb0 := Below.refl W0.heap.size W0; clear hz
      refine (HS.out _ (chain1 HW0.out hb0)).mono ?_
      rintro e W1 ⟨a, b, c, ok, rfl, hok, hb⟩
      (obtain ⟨_, _, _, _⟩ := boxq (b := w.heap.size) hb (by assumption) (by assumption) (by assumption) (by assumption); obtain ⟨_, _, _, _⟩ := boxq (b := w.heap.size + 1) hb (by assumption) (by assumption) (by assumption) (by assumption))
      have HA := Lib.hid (chain1 hb0 hb)
      have HOK := Lib.hid hok
      clear hb0 hb hok f0 f1 f2 f3 g0 g1 g2 g3
      (have hz := HZ.out.below HA.out (Nat.le_refl _); have zf := hz.frozen; obtain ⟨z0, z1, z2, z3⟩ := hz.cells; have zf0 := zf 0; have zf1 := zf 1; have zf2 := zf 2; have zf3 := zf 3; clear zf hz)
      have q0 : w.heap.size < W1.heap.size := World.block_lt_of_cell? W1 ⟨w.heap.size, 0, none⟩ (by assumption)
      have q1 : w.heap.size + 1 < W1.heap.size := World.block_lt_of_cell? W1 ⟨w.heap.size + 1, 0, none⟩ (by assumption)
      have q2 : w.heap.size + 1 + 1 < W1.heap.size := World.block_lt_of_cell? W1 ⟨w.heap.size + 1 + 1, 0, none⟩ z0
      cases ok
      · go_wp2_with fail
        have HA' := Lib.hid (chain1 HA.out (below1 W1 (.cells #[.bool a, .int .u64 (b : Int), .int .u64 (c : Int), .pointer none] 26)))
        clear z0 z1 z2 z3 zf0 zf1 zf2 zf3 q0 q1 q2
        refine (HW.out _ (chain1 HW0.out HA'.out)).mono ?_
        rintro e W9 ⟨v, rfl, hN, hb⟩
        have hb3 := chain1 HA'.out hb
        have hN' := hN
        obtain ⟨sg, a9, b9, p9, rfl⟩ := hN'.form
        have hz := HZ.out.below hb3 (Nat.le_refl _)
        have hfin := QNew.stored (a0 := .bool sg) (a1 := u a9) (a2 := u b9) (a3 := .pointer p9) hz hN (chain1 HW0.out hb3) (by omega)
        have HFin := Lib.hid hfin
        (have hz := HZ.out.below hb3 (Nat.le_refl _); have zf := hz.frozen; obtain ⟨z0, z1, z2, z3⟩ := hz.cells; have zf0 := zf 0; have zf1 := zf 1; have zf2 := zf 2; have zf3 := zf 3; clear zf hz)
        clear hfin hN hN' hb hb3
        go_wp2_with fail
        refine bodyPost_ret (v := .agg #[.bool sg, u a9, u b9, .pointer p9]) (by simp [results, Tryz.results33, go_sem, z0, z1, z2, z3]) rfl ?_
        exact HFin.out
      · have hT := HOK.out rfl
        have HT := Lib.hid hT
        clear hT
        go_wp2_with fail
        refine bodyPost_ret (v := lo a b c) (by simp [results, Tryz.results33, go_sem, z0, z1, z2, z3, q2]) rfl ?_
        exact ⟨_, rfl, HT.out _, (store4 HW0.out HA.out (by omega) _ _ _ _).trans ((below1 _ _).mono (store4 HW0.out HA.out (by omega) _ _ _ _).size)⟩
    · clear h1 h2 z1 z2 hk hG
      generalize neg? r = neg1 at *
      generalize neg? s = neg2 at *
      generalize r.num.natAbs = n1 at *
      generalize r * s = t at *
      clear d1 i1 j1
      go_enter Tryz.func33, Tryz.ntmps33
      go_wp2_with fail
      obtain ⟨W0, hW0, hb0, ⟨f0, f1, f2, f3⟩, ⟨g0, g1, g2, g3⟩, hz⟩ := box3 w (.bool neg1) (u n1) (u l1) (.pointer none) (.bool neg2) (u 0) (u 0) (.pointer (some ⟨b2, 0, none⟩)); rw [← hW0]; clear hW0; have HZ := Lib.hid hz; have HW0 := Lib.hid hb0; have hb0 := Below.refl W0.heap.size W0; clear hz
      refine (HW.out _ (chain1 HW0.out hb0)).mono ?_
      rintro e W9 ⟨v, rfl, hN, hb⟩
      have hb3 := chain1 hb0 hb
      have hN' := hN
      obtain ⟨sg, a9, b9, p9, rfl⟩ := hN'.form
      have hz := HZ.out.below hb3 (Nat.le_refl _)
      have hfin := QNew.stored (a0 := .bool sg) (a1 := u a9) (a2 := u b9) (a3 := .pointer p9) hz hN (chain1 HW0.out hb3) (by omega)
      have HFin := Lib.hid hfin
      (have hz := HZ.out.below hb3 (Nat.le_refl _); have zf := hz.frozen; obtain ⟨z0, z1, z2, z3⟩ := hz.cells; have zf0 := zf 0; have zf1 := zf 1; have zf2 := zf 2; have zf3 := zf 3; clear zf hz)
      clear hfin hN hN' hb hb3
      go_wp2_with fail
      refine bodyPost_ret (v := .agg #[.bool sg, u a9, u b9, .pointer p9]) (by simp [results, Tryz.results33, go_sem, z0, z1, z2, z3]) rfl ?_
      exact HFin.out
  · obtain ⟨neg2, a2, b2, p2, rfl⟩ := h2.form
    clear h1 h2 z1 z2 hk hG
    generalize neg? r = neg1 at *
    generalize r * s = t at *
    go_enter Tryz.func33, Tryz.ntmps33
    go_wp2_with fail
    obtain ⟨W0, hW0, hb0, ⟨f0, f1, f2, f3⟩, ⟨g0, g1, g2, g3⟩, hz⟩ := box3 w (.bool neg1) (u 0) (u 0) (.pointer (some ⟨b1, 0, none⟩)) (.bool neg2) (u a2) (u b2) (.pointer p2); rw [← hW0]; clear hW0; have HZ := Lib.hid hz; have HW0 := Lib.hid hb0; have hb0 := Below.refl W0.heap.size W0; clear hz
    refine (HW.out _ (chain1 HW0.out hb0)).mono ?_
    rintro e W9 ⟨v, rfl, hN, hb⟩
    have hb3 := chain1 hb0 hb
    have hN' := hN
    obtain ⟨sg, a9, b9, p9, rfl⟩ := hN'.form
    have hz := HZ.out.below hb3 (Nat.le_refl _)
    have hfin := QNew.stored (a0 := .bool sg) (a1 := u a9) (a2 := u b9) (a3 := .pointer p9) hz hN (chain1 HW0.out hb3) (by omega)
    have HFin := Lib.hid hfin
    (have hz := HZ.out.below hb3 (Nat.le_refl _); have zf := hz.frozen; obtain ⟨z0, z1, z2, z3⟩ := hz.cells; have zf0 := zf 0; have zf1 := zf 1; have zf2 := zf 2; have zf3 := zf 3; clear zf hz)
    clear hfin hN hN' hb hb3
    go_wp2_with fail
    refine bodyPost_ret (v := .agg #[.bool sg, u a9, u b9, .pointer p9]) (by simp [results, Tryz.results33, go_sem, z0, z1, z2, z3]) rfl ?_
    exact HFin.out

end Go.Proofs.YtojploidgagmgaaGreatDoor

/- Q.side, Q.Sign, Q.Neg, Q.Abs: signs of numbers. -/
namespace Go.Proofs.YtojploidgagmgaaGreatDoor
open Go Go.RowKit Go.Proofs Lim

theorem side_any (sg : Bool) (a b : Nat) (p : Option Addr) (w : World) :
    Calls Tryz.prog 95 #[.agg #[.bool sg, u a, u b, .pointer p]] w (Val w (.int .i64 (if sg then -1 else 1))) := by
  cases sg
  · go_enter Tryz.func95, Tryz.ntmps95
    go_wp2_with fail
    go_ret
    exact ⟨rfl, below1 w _⟩
  · go_enter Tryz.func95, Tryz.ntmps95
    go_wp2_with fail
    go_ret
    exact ⟨rfl, below1 w _⟩

/-- -1, 0 or 1 as a number is below, at or above 0. -/
def sign (r : Rat) : Int := if r.num = 0 then 0 else if r.num < 0 then -1 else 1

theorem sign_q (v : Value) (r : Rat) (w : World) (h : IsQ w v r) :
    Calls Tryz.prog 23 #[v] w (Val w (.int .i64 (sign r))) := by
  have hsg : (if decide (r.num < 0) then (-1 : Int) else 1) = if r.num < 0 then -1 else 1 := by
    by_cases h : r.num < 0 <;> simp [h]
  cases h with
  | low l hv hd hn hdB =>
    subst hv
    by_cases h0 : r.num.natAbs = 0
    · have hs : sign r = 0 := by unfold sign; rw [if_pos (by omega)]
      rw [hs, h0]
      generalize decide (r.num < 0) = sg at *
      go_enter Tryz.func23, Tryz.ntmps23
      go_wp2_with fail
      go_ret
      exact ⟨rfl, below1 w _⟩
    · have hs : sign r = if decide (r.num < 0) then -1 else 1 := by unfold sign; rw [if_neg (by omega), hsg]
      rw [hs]
      have HS := Lib.hid (fun W => side_any (decide (r.num < 0)) r.num.natAbs l none W)
      clear hs hsg hn hd hdB
      have h1 : (((r.num.natAbs : Nat) : Int) == 0) = false := by rw [beq_eq_false_iff_ne]; omega
      obtain ⟨sv, hsv⟩ : ∃ sv : Int, sv = if decide (r.num < 0) then -1 else 1 := ⟨_, rfl⟩
      rw [← hsv] at HS ⊢
      clear hsv
      generalize decide (r.num < 0) = sg at *
      generalize r.num.natAbs = n at *
      clear h0
      go_enter Tryz.func23, Tryz.ntmps23
      go_wp2_with fail
      refine (HS.out _).mono ?_
      rintro e W1 ⟨rfl, hb⟩
      have HB := Lib.hid (chain1 (below1 w _) hb)
      clear hb
      go_wp2_with fail
      go_ret
      exact ⟨rfl, HB.out⟩
  | wide b x y hv hx hy h1 h2 hB h0 hd =>
    subst hv
    have hs : sign r = if decide (r.num < 0) then -1 else 1 := by unfold sign; rw [if_neg (by omega), hsg]
    rw [hs]
    have HS := Lib.hid (fun W => side_any (decide (r.num < 0)) 0 0 (some ⟨b, 0, none⟩) W)
    clear hs hsg hx hy h1 h2 hB h0 hd
    obtain ⟨sv, hsv⟩ : ∃ sv : Int, sv = if decide (r.num < 0) then -1 else 1 := ⟨_, rfl⟩
    rw [← hsv] at HS ⊢
    clear hsv
    generalize decide (r.num < 0) = sg at *
    go_enter Tryz.func23, Tryz.ntmps23
    go_wp2_with fail
    refine (HS.out _).mono ?_
    rintro e W1 ⟨rfl, hb⟩
    have HB := Lib.hid (chain1 (below1 w _) hb)
    clear hb
    go_wp2_with fail
    go_ret
    exact ⟨rfl, HB.out⟩

/-- The same size with another sign. -/
theorem Num.resign {w : World} {s1 s2 s3 : Bool} {a b : Nat} {p : Option Addr} {n d : Nat} (h : Num w (.agg #[.bool s1, u a, u b, .pointer p]) s2 n d) : Num w (.agg #[.bool s3, u a, u b, .pointer p]) s3 n d := by
  cases h with
  | low l hv hd hn hdB =>
    simp at hv
    obtain ⟨_, e1, e2, rfl⟩ := hv
    have e1 : a = n := by omega
    have e2 : b = l := by omega
    subst e1 e2
    exact .low _ rfl hd hn hdB
  | wide b' x y hv hx hy h1 h2 hB h0 hd =>
    simp at hv
    obtain ⟨_, e1, e2, rfl⟩ := hv
    have e1 : a = 0 := by omega
    have e2 : b = 0 := by omega
    subst e1 e2
    exact .wide b' x y rfl hx hy h1 h2 hB h0 hd

theorem abs_q (v : Value) (r : Rat) (w : World) (h : IsQ w v r) :
    Calls Tryz.prog 43 #[v] w (QNew w (if r.num < 0 then -r else r)) := by
  have hq : ∀ W neg a b p, v = .agg #[.bool neg, u a, u b, .pointer p] → Below w.heap.size w W → IsQ W (.agg #[.bool false, u a, u b, .pointer p]) (if r.num < 0 then -r else r) := by
    intro W neg a b p hv hW
    have h' := h.below hW (Nat.le_refl _)
    have e1 : (if r.num < 0 then -r else r).num.natAbs = r.num.natAbs := by split <;> simp
    have e2 : (if r.num < 0 then -r else r).den = r.den := by split <;> simp
    have e3 : decide ((if r.num < 0 then -r else r).num < 0) = false := by
      by_cases hr : r.num < 0
      · first | (simp [hr]; done) | (simp [hr]; omega)
      · first | (simp [hr]; done) | (simp [hr]; omega)
    unfold IsQ
    rw [e1, e2, e3]
    subst hv
    exact Num.resign h'
  have HQ := Lib.hid hq
  obtain ⟨neg, a, b, p, rfl⟩ := h.form
  clear h hq
  generalize (if r.num < 0 then -r else r) = t at *
  go_enter Tryz.func43, Tryz.ntmps43
  go_wp2_with fail
  refine bodyPost_ret (v := .agg #[.bool false, u a, u b, .pointer p]) (by simp [results, Tryz.results43, go_sem]) rfl ?_
  have hb := chain1 (below1 w (.cells #[.bool false, u a, u b, .pointer p] 26)) (below1 _ (.cells #[.bool false, u a, u b, .pointer p] 26))
  exact ⟨_, rfl, HQ.out _ _ _ _ _ rfl hb, hb⟩

/-- A number's own box and that of a result, both to be written. -/
theorem box2w (w : World) (a0 a1 a2 a3 : Value) : ∃ W, W = (w.alloc (.cells #[a0, a1, a2, a3] 26)).alloc (.cells #[.bool false, .int .u64 0, .int .u64 0, .pointer none] 26) ∧ Below w.heap.size w W ∧
    Box W w.heap.size a0 a1 a2 a3 ∧ Box W (w.heap.size + 1) (.bool false) (.int .u64 0) (.int .u64 0) (.pointer none) := by
  refine ⟨_, rfl, chain1 (below1 w _) (below1 _ _), ?_, ?_⟩
  · have h1 : Box (w.alloc (.cells #[a0, a1, a2, a3] 26)) w.heap.size a0 a1 a2 a3 := heap_alloc_new w _
    exact h1.below (below1 _ _) (Nat.le_refl _)
  · have hs : (w.alloc (.cells #[a0, a1, a2, a3] 26)).heap.size = w.heap.size + 1 := by
      show (w.heap.push _).size = _
      simp
    rw [← hs]
    exact heap_alloc_new _ _

theorem neg_q (v : Value) (r : Rat) (w : World) (h : IsQ w v r) :
    Calls Tryz.prog 41 #[v] w (QNew w (-r)) := by
  have hq : ∀ W sg neg a b p, v = .agg #[.bool neg, u a, u b, .pointer p] → sg = decide (0 < sign r) → Below w.heap.size w W → IsQ W (.agg #[.bool sg, u a, u b, .pointer p]) (-r) := by
    intro W sg neg a b p hv hs hW
    have h' := h.below hW (Nat.le_refl _)
    have e3 : decide ((-r).num < 0) = sg := by
      rw [hs]
      unfold sign
      rw [Rat.neg_num, Bool.eq_iff_iff]
      simp only [decide_eq_true_eq]
      split
      · omega
      · split <;> omega
    unfold IsQ
    rw [e3, Rat.neg_num, Int.natAbs_neg, Rat.neg_den]
    subst hv
    exact Num.resign h'
  have HQ := Lib.hid hq
  have HS := Lib.hid (fun W (hW : Below w.heap.size w W) => sign_q v r W (h.below hW (Nat.le_refl _)))
  obtain ⟨neg, a, b, p, rfl⟩ := h.form
  clear h hq
  generalize sign r = sv at *
  generalize -r = t at *
  go_enter Tryz.func41, Tryz.ntmps41
  go_wp2_with fail
  obtain ⟨W0, hW0, hb0, hx, hz⟩ := box2w w (.bool neg) (u a) (u b) (.pointer p)
  rw [← hW0]
  clear hW0
  refine (HS.out _ hb0).mono ?_
  rintro e W1 ⟨rfl, hb⟩
  have hx1 := hx.below hb (Nat.le_refl _)
  have hz1 := hz.below hb (Nat.le_refl _)
  have HB := Lib.hid (chain1 hb0 hb)
  have xf := hx1.frozen
  obtain ⟨x0, x1, x2, x3⟩ := hx1.cells
  have xf0 := xf 0
  have zf := hz1.frozen
  obtain ⟨z0, z1, z2, z3⟩ := hz1.cells
  have zf0 := zf 0
  have zf1 := zf 1
  have zf2 := zf 2
  have zf3 := zf 3
  clear xf zf hx hz hx1 hz1 hb hb0
  go_wp2_with fail
  have hb5 : Below w.heap.size w (((((W1.setCell ⟨w.heap.size, 0, none⟩ (.bool (decide (0 < sv)))).setCell ⟨w.heap.size + 1, 0, none⟩ (.bool (decide (0 < sv)))).setCell ⟨w.heap.size + 1, 1, none⟩ (u a)).setCell ⟨w.heap.size + 1, 2, none⟩ (u b)).setCell ⟨w.heap.size + 1, 3, none⟩ (.pointer p)) :=
    (HB.out.trans (((Only.refl w.heap.size W1).set 0 _).below (Nat.le_refl _))).trans ((((((Only.refl (w.heap.size + 1) _).set 0 _).set 1 _).set 2 _).set 3 _).below (by omega))
  refine bodyPost_ret (v := .agg #[.bool (decide (0 < sv)), u a, u b, .pointer p]) (by simp [results, Tryz.results41, go_sem, z0, z1, z2, z3]) rfl ?_
  exact ⟨_, rfl, HQ.out _ _ _ _ _ _ rfl rfl hb5, hb5⟩

end Go.Proofs.YtojploidgagmgaaGreatDoor

/- Q.Minus: differences of numbers. -/
namespace Go.Proofs.YtojploidgagmgaaGreatDoor
open Go Go.RowKit Go.Proofs Lim

theorem Siz.neg {r : Rat} {k : Nat} (h : Siz r k) : Siz (-r) k := by
  unfold Siz at *
  rw [Rat.neg_num, Int.natAbs_neg, Rat.neg_den]
  exact h

theorem minus_q (v1 v2 : Value) (r s : Rat) (k : Nat) (w : World) (h1 : IsQ w v1 r) (h2 : IsQ w v2 s) (z1 : Siz r k) (z2 : Siz s k) (hk : ((k + k + 1 : Nat) : Int) ≤ 1073741824) (hG : Gr w) :
    Calls Tryz.prog 31 #[v1, v2] w (QNew w (r - s)) := by
  have HN := Lib.hid (fun W (hW : Below w.heap.size w W) => neg_q v2 s W (h2.below hW (Nat.le_refl _)))
  have HP := Lib.hid (fun v W (hv : IsQ W v (-s)) (hW : Below w.heap.size w W) => plus_q v1 v r (-s) k W (h1.below hW (Nat.le_refl _)) hv z1 z2.neg hk (hG.below hW hG.size))
  rw [← Rat.sub_eq_add_neg] at HP
  obtain ⟨neg1, a1, b1, p1, rfl⟩ := h1.form
  obtain ⟨neg2, a2, b2, p2, rfl⟩ := h2.form
  clear h1 h2 z1 z2 hk hG
  generalize r - s = t at *
  generalize -s = s' at *
  go_enter Tryz.func31, Tryz.ntmps31
  go_wp2_with fail
  obtain ⟨W0, hW0, hb0, ⟨f0, f1, f2, f3⟩, ⟨g0, g1, g2, g3⟩, hz⟩ := box3 w (.bool neg1) (u a1) (u b1) (.pointer p1) (.bool neg2) (u a2) (u b2) (.pointer p2); rw [← hW0]; clear hW0; have HZ := Lib.hid hz; have HW0 := Lib.hid hb0; have hb0 := Below.refl W0.heap.size W0; clear hz
  have n1 : ¬ w.heap.size = w.heap.size + 1 + 1 := by omega
  have n2 : ¬ w.heap.size + 1 + 1 = w.heap.size := by omega
  have n3 : w.heap.size ≠ w.heap.size + 1 + 1 := by omega
  go_region_held3 (fun w' => (w'.cell? ⟨w.heap.size, 0, none⟩ = some (.bool neg1) ∧ w'.cell? ⟨w.heap.size, 1, none⟩ = some (u a1) ∧ w'.cell? ⟨w.heap.size, 2, none⟩ = some (u b1) ∧ w'.cell? ⟨w.heap.size, 3, none⟩ = some (.pointer p1)) ∧ (w'.cell? ⟨w.heap.size + 1, 0, none⟩ = some (.bool neg2) ∧ w'.cell? ⟨w.heap.size + 1, 1, none⟩ = some (u a2) ∧ w'.cell? ⟨w.heap.size + 1, 2, none⟩ = some (u b2) ∧ w'.cell? ⟨w.heap.size + 1, 3, none⟩ = some (.pointer p2))) (go_keep) (first | ((with_reducible refine (HN.out _ ((chain1 HW0.out hb0).drew)).mono ?_); rintro e W1 ⟨vn, rfl, hvn, hb⟩; (obtain ⟨_, _, _, _⟩ := boxq (b := w.heap.size) hb (by assumption) (by assumption) (by assumption) (by assumption); obtain ⟨_, _, _, _⟩ := boxq (b := w.heap.size + 1) hb (by assumption) (by assumption) (by assumption) (by assumption)); obtain ⟨_, _, _, _, rfl⟩ := hvn.form) | ((with_reducible refine (HP.out _ _ hvn (chain1 HW0.out (chain hb0 hb))).mono ?_); rintro e W9 ⟨v, rfl, hv, hb'⟩; (obtain ⟨_, _, _, _⟩ := boxq (b := w.heap.size) hb' (by assumption) (by assumption) (by assumption) (by assumption); obtain ⟨_, _, _, _⟩ := boxq (b := w.heap.size + 1) hb' (by assumption) (by assumption) (by assumption) (by assumption)); have hv' := hv; obtain ⟨sg9, a9, b9, p9, rfl⟩ := hv'.form; have hb3 := chain1 (chain hb0 hb) hb'; (have hz := HZ.out.below hb3 (Nat.le_refl _); have zf := hz.frozen; obtain ⟨z0, z1, z2, z3⟩ := hz.cells; have zf0 := zf 0; have zf1 := zf 1; have zf2 := zf 2; have zf3 := zf 3; clear zf hz)))
  have hz := HZ.out.below hb3 (Nat.le_refl _)
  have hfin := QNew.stored (a0 := .bool sg9) (a1 := u a9) (a2 := u b9) (a3 := .pointer p9) hz hv (chain1 HW0.out hb3) (by omega)
  have HFin := Lib.hid hfin
  clear hfin hv hv' hvn hb hb' hb0 hb3 hz f0 f1 f2 f3 g0 g1 g2 g3
  go_wp2_with fail
  refine bodyPost_ret (v := .agg #[.bool sg9, u a9, u b9, .pointer p9]) (by simp [results, Tryz.results31, go_sem, z0, z1, z2, z3]) rfl ?_
  exact HFin.out

end Go.Proofs.YtojploidgagmgaaGreatDoor
