/- Package exact, part 1: what its functions answer, as laws on the numbers that their values stand for (Math Base Limbs Take Trim Clone One Sum Minus Diff Lehmer Foresee Shift Knuth Div Cmp Guess). -/
import Derived.WalkKit
import Derived.WalkSpells
import Derived.WalkLawsBesides
import Derived.Deep.QuietTactic
import Derived.BigQuiet
import Derived.Deep.RegionHeld3
import Derived.Deep.RegionWith
import Derived.Deep.DeepCutAuto
import Derived.Deep.CutBlock
import Derived.Deep.DeepFit
import Derived.IntWalk
import Derived.Lib.Hide
import Derived.Test.YtojploidgagmgaaGreatDoorShelf
import Derived.Shelf.Spec.BitsCarry
import Derived.KernelRfl
import Derived.Laws.CopyOwn
import Derived.Laws.MathBits
set_option linter.unusedVariables false
set_option linter.unusedSimpArgs false

namespace Go.Proofs.YtojploidgagmgaaGreatDoor.Lim

/-- The base of the limbs. -/
def B : Nat := 18446744073709551616

theorem B_pos : 0 < B := by decide

/-- The value of limbs, the lowest one first. -/
def val : List Nat → Nat
  | [] => 0
  | x :: xs => x + B * val xs

/-- All limbs are below the base. -/
def Ok (l : List Nat) : Prop := ∀ x ∈ l, x < B

theorem Ok.nil : Ok [] := by intro x h; cases h
theorem Ok.cons {x : Nat} {l : List Nat} (hx : x < B) (h : Ok l) : Ok (x :: l) := by
  intro y hy; rcases List.mem_cons.1 hy with rfl | hy
  · exact hx
  · exact h y hy
theorem Ok.head {x : Nat} {l : List Nat} (h : Ok (x :: l)) : x < B := h x (by simp)
theorem Ok.tail {x : Nat} {l : List Nat} (h : Ok (x :: l)) : Ok l := fun y hy => h y (by simp [hy])
theorem Ok.append {l m : List Nat} (h : Ok l) (h' : Ok m) : Ok (l ++ m) := by
  intro x hx; rcases List.mem_append.1 hx with hx | hx
  · exact h x hx
  · exact h' x hx
theorem Ok.take {l : List Nat} (h : Ok l) (k : Nat) : Ok (l.take k) := fun x hx => h x (List.mem_of_mem_take hx)
theorem Ok.drop {l : List Nat} (h : Ok l) (k : Nat) : Ok (l.drop k) := fun x hx => h x (List.mem_of_mem_drop hx)
theorem Ok.set {l : List Nat} (h : Ok l) (k v : Nat) (hv : v < B) : Ok (l.set k v) := by
  intro x hx; rcases List.mem_or_eq_of_mem_set hx with hx | hx
  · exact h x hx
  · rw [hx]; exact hv
theorem Ok.replicate (n : Nat) : Ok (List.replicate n 0) := by
  intro x hx; rw [(List.mem_replicate.1 hx).2]; exact B_pos
theorem Ok.get {l : List Nat} (h : Ok l) (k : Nat) : l[k]?.getD 0 < B := by
  rcases Nat.lt_or_ge k l.length with hk | hk
  · rw [List.getElem?_eq_getElem hk]; exact h _ (List.getElem_mem hk)
  · rw [List.getElem?_eq_none hk]; exact B_pos

theorem val_nil : val [] = 0 := rfl
theorem val_cons (x : Nat) (l : List Nat) : val (x :: l) = x + B * val l := rfl

theorem val_append (l m : List Nat) : val (l ++ m) = val l + B ^ l.length * val m := by
  induction l with
  | nil => simp [val]
  | cons x l ih => simp only [List.cons_append, val, ih, List.length_cons, Nat.pow_succ]; grind

theorem val_lt {l : List Nat} (h : Ok l) : val l < B ^ l.length := by
  induction l with
  | nil => simp [val]
  | cons x l ih =>
    have h1 := ih h.tail
    have h2 := h.head
    simp only [val, List.length_cons, Nat.pow_succ]
    have : B * (val l + 1) ≤ B * B ^ l.length := Nat.mul_le_mul_left _ h1
    rw [Nat.mul_comm (B ^ l.length) B]
    rw [Nat.mul_add] at this
    omega

theorem val_replicate (n : Nat) : val (List.replicate n 0) = 0 := by
  induction n with
  | zero => rfl
  | succ n ih => simp [List.replicate_succ, val, ih]

theorem val_take_drop (l : List Nat) (k : Nat) (h : k ≤ l.length) : val l = val (l.take k) + B ^ k * val (l.drop k) := by
  conv => lhs; rw [← List.take_append_drop k l, val_append]
  rw [List.length_take, Nat.min_eq_left h]

theorem take_succ_get (l : List Nat) (k : Nat) (h : k < l.length) : l.take (k + 1) = l.take k ++ [l[k]?.getD 0] := by
  rw [List.take_succ_eq_append_getElem h, List.getElem?_eq_getElem h]; rfl

theorem val_take_succ (l : List Nat) (k : Nat) (h : k < l.length) : val (l.take (k + 1)) = val (l.take k) + B ^ k * l[k]?.getD 0 := by
  rw [take_succ_get l k h, val_append, List.length_take, Nat.min_eq_left (by omega)]
  simp [val]

theorem val_set (l : List Nat) (k v : Nat) (h : k < l.length) : val (l.set k v) + B ^ k * l[k]?.getD 0 = val l + B ^ k * v := by
  induction l generalizing k with
  | nil => simp at h
  | cons x l ih =>
    cases k with
    | zero => simp [val]; omega
    | succ k =>
      have h1 := ih k (by simpa using h)
      simp only [List.set_cons_succ, val, List.getElem?_cons_succ, Nat.pow_succ]
      grind

theorem get_set_ne (l : List Nat) (k j v : Nat) (h : k ≠ j) : (l.set k v)[j]?.getD 0 = l[j]?.getD 0 := by
  rw [List.getElem?_set_ne h]

theorem val_eq_of_lt {n a b c d : Nat} (h : a + n * b = c + n * d) (ha : a < n) (hc : c < n) : a = c ∧ b = d := by
  have h1 : (a + n * b) % n = a := by rw [Nat.add_mul_mod_self_left, Nat.mod_eq_of_lt ha]
  have h2 : (c + n * d) % n = c := by rw [Nat.add_mul_mod_self_left, Nat.mod_eq_of_lt hc]
  have : a = c := by rw [← h1, ← h2, h]
  subst this
  refine ⟨rfl, ?_⟩
  have : n * b = n * d := by omega
  exact Nat.eq_of_mul_eq_mul_left (by omega) this

theorem val_inj : ∀ {l m : List Nat}, Ok l → Ok m → l.length = m.length → val l = val m → l = m
  | [], [], _, _, _, _ => rfl
  | x :: l, y :: m, hl, hm, hlen, h => by
    simp only [val] at h
    have := val_eq_of_lt h hl.head hm.head
    rw [this.1, val_inj hl.tail hm.tail (by simpa using hlen) this.2]

/-- The last limb is not 0. -/
def Trim (l : List Nat) : Prop := ∀ h : l ≠ [], l.getLast h ≠ 0

theorem val_pos_of_trim {l : List Nat} (h : Trim l) (hn : l ≠ []) : B ^ (l.length - 1) ≤ val l := by
  have h1 : l = l.dropLast ++ [l.getLast hn] := (List.dropLast_concat_getLast hn).symm
  have h2 := h hn
  rw [h1, val_append]
  simp only [val, List.length_append, List.length_dropLast, List.length_cons, List.length_nil]
  have : B ^ (l.length - 1) * 1 ≤ B ^ (l.length - 1) * (l.getLast hn + B * 0) := Nat.mul_le_mul_left _ (by omega)
  simp only [Nat.add_sub_cancel, Nat.zero_add]
  omega

theorem val_eq_zero {l : List Nat} (h : Trim l) : val l = 0 ↔ l = [] := by
  constructor
  · intro hv
    rcases l with _ | ⟨x, l⟩
    · rfl
    · have := val_pos_of_trim h (by simp)
      have : 0 < B ^ ((x :: l).length - 1) := Nat.pow_pos B_pos
      omega
  · rintro rfl; rfl

theorem length_le_of_val_le {l m : List Nat} (hl : Trim l) (hm : Ok m) (h : val l ≤ val m) : l.length ≤ m.length := by
  rcases l with _ | ⟨x, l⟩
  · simp
  · have h1 := val_pos_of_trim hl (by simp)
    have h2 := val_lt hm
    have h3 : B ^ ((x :: l).length - 1) < B ^ m.length := by omega
    have := (Nat.pow_lt_pow_iff_right (show 1 < B by decide)).1 h3
    simp at this ⊢
    omega

theorem trim_inj {l m : List Nat} (hl : Ok l) (hm : Ok m) (tl : Trim l) (tm : Trim m) (h : val l = val m) : l = m :=
  val_inj hl hm (Nat.le_antisymm (length_le_of_val_le tl hm (by omega)) (length_le_of_val_le tm hl (by omega))) h

end Go.Proofs.YtojploidgagmgaaGreatDoor.Lim

/- The words in which the contracts of package exact speak of memory: blocks of limbs, naturals, and worlds that differ at one block alone. -/
namespace Go.Proofs.YtojploidgagmgaaGreatDoor
open Go Go.RowKit Lim

/-- A limb as a value. -/
abbrev u (n : Nat) : Value := .int .u64 (n : Int)

/-- Block b is an array that begins with limbs: nothing of it is frozen. -/
def Blk (w : World) (b : Nat) (L : List Nat) : Prop := ∃ T : List Value, w.heap[b]? = some (.cells (L.map u ++ T).toArray 23 (0, 0))

/-- From an offset of a block on there are limbs. -/
def Row (w : World) (b off : Nat) (xs : List Nat) : Prop := ∀ i, i < xs.length → w.cell? ⟨b, off + i, none⟩ = some (u (xs[i]?.getD 0))

/-- The worlds differ at block b alone (and in what has been drawn). -/
structure Only (b : Nat) (w w' : World) : Prop where
  os : w'.os = w.os
  tape : w'.tape = w.tape
  output : w'.output = w.output
  size : w'.heap.size = w.heap.size
  block : ∀ k, k ≠ b → w'.heap[k]? = w.heap[k]?

theorem Only.refl (b : Nat) (w : World) : Only b w w := ⟨rfl, rfl, rfl, rfl, fun _ _ => rfl⟩
theorem Only.trans {b : Nat} {w w' w'' : World} (h : Only b w w') (k : Only b w' w'') : Only b w w'' :=
  ⟨k.os.trans h.os, k.tape.trans h.tape, k.output.trans h.output, k.size.trans h.size, fun i hi => (k.block i hi).trans (h.block i hi)⟩
theorem Only.drew {b : Nat} {w w' : World} (h : Only b w w') : Only b w w'.drew := ⟨h.os, h.tape, h.output, h.size, h.block⟩
theorem Only.drewN {b : Nat} {w w' : World} (h : Only b w w') (n : Nat) : Only b w (w'.drewN n) := ⟨h.os, h.tape, h.output, h.size, h.block⟩
theorem Only.set {b : Nat} {w w' : World} (h : Only b w w') (o : Nat) (v : Value) : Only b w (w'.setCell ⟨b, o, none⟩ v) :=
  h.trans ⟨rfl, rfl, rfl, by simp [World.setCell], fun k hk => Below.heap_setCell _ _ _ _ hk⟩
theorem Only.below {b B : Nat} {w w' : World} (h : Only b w w') (hB : B ≤ b) : Below B w w' :=
  ⟨h.os, h.tape, h.output, by rw [h.size]; exact Nat.le_refl _, fun k hk => h.block k (by omega)⟩
theorem Only.cell {b : Nat} {w w' : World} (h : Only b w w') {p : Addr} (hp : p.block ≠ b) : w'.cell? p = w.cell? p := World.cell?_of_block (w := w) (h.block p.block hp)
theorem Only.frozen {b : Nat} {w w' : World} (h : Only b w w') {p : Addr} (hp : p.block ≠ b) : w'.frozen? p = w.frozen? p := World.frozen?_of_block (w := w) (h.block p.block hp)
theorem Only.row {b c off : Nat} {xs : List Nat} {w w' : World} (h : Only b w w') (hc : c ≠ b) (hr : Row w c off xs) : Row w' c off xs :=
  fun i hi => (h.cell (p := ⟨c, off + i, none⟩) hc).trans (hr i hi)

theorem drewN_heap (w : World) (n : Nat) : (w.drewN n).heap = w.heap := rfl
theorem bdrewN {B n : Nat} {a w : World} (h : Below B a w) : Below B a (w.drewN n) := ⟨h.os, h.tape, h.output, h.size, h.block⟩

theorem drew2 (w : World) (a b : Nat) : (w.drewN a).drewN b = w.drewN (a + b) := World.drewN_drewN ..
theorem drew3 (w : World) (a b c : Nat) : ((w.drewN a).drewN b).drewN c = w.drewN (a + b + c) := by rw [drew2, drew2, Nat.add_assoc]

theorem Blk.lt {w : World} {b : Nat} {L : List Nat} (h : Blk w b L) : b < w.heap.size := let ⟨_, h⟩ := h; (Array.getElem?_eq_some_iff.1 h).1
theorem Blk.cell {w : World} {b : Nat} {L : List Nat} (h : Blk w b L) (i : Nat) (hi : i < L.length) : w.cell? ⟨b, i, none⟩ = some (u (L[i]?.getD 0)) := by
  obtain ⟨T, h⟩ := h
  simp only [World.cell?, h]
  simp [hi, List.getElem?_append_left]
theorem Blk.frozen {w : World} {b : Nat} {L : List Nat} (h : Blk w b L) (i : Nat) : w.frozen? ⟨b, i, none⟩ = false := by
  obtain ⟨T, h⟩ := h
  simp only [World.frozen?, h]
  simp
theorem Blk.set {w : World} {b : Nat} {L : List Nat} (h : Blk w b L) (i v : Nat) (hi : i < L.length) : Blk (w.setCell ⟨b, i, none⟩ (u v)) b (L.set i v) := by
  obtain ⟨T, h⟩ := h
  refine ⟨T, ?_⟩
  simp only [World.setCell, Array.getElem?_modify]
  simp [h, List.map_set, List.set_append_left, hi]
theorem Blk.of_block {w w' : World} {b : Nat} {L : List Nat} (h : Blk w b L) (hb : w'.heap[b]? = w.heap[b]?) : Blk w' b L := let ⟨T, h⟩ := h; ⟨T, by rw [hb, h]⟩
theorem Blk.drew {w : World} {b : Nat} {L : List Nat} (h : Blk w b L) : Blk w.drew b L := h
theorem Blk.below {w w' : World} {b B : Nat} {L : List Nat} (h : Blk w b L) (hb : Below B w w') (hB : b < B) : Blk w' b L := h.of_block (hb.block b hB)
theorem Blk.only {w w' : World} {b c : Nat} {L : List Nat} (h : Blk w b L) (hb : Only c w w') (hc : b ≠ c) : Blk w' b L := h.of_block (hb.block b hc)
theorem Blk.row {w : World} {b : Nat} {L : List Nat} (h : Blk w b L) (off n : Nat) (hn : off + n ≤ L.length) : Row w b off ((L.drop off).take n) := by
  intro i hi
  simp only [List.length_take, List.length_drop] at hi
  rw [h.cell (off + i) (by omega)]
  congr 2
  rw [List.getElem?_take, if_pos (by omega), List.getElem?_drop]

theorem Row.below {w w' : World} {b off B : Nat} {xs : List Nat} (h : Row w b off xs) (hb : Below B w w') (hB : b < B) : Row w' b off xs :=
  fun i hi => (hb.cell (p := ⟨b, off + i, none⟩) hB).trans (h i hi)
theorem Row.lt {w : World} {b off : Nat} {xs : List Nat} (h : Row w b off xs) (hn : 0 < xs.length) : b < w.heap.size := World.block_lt_of_cell? w _ (h 0 hn)

/-- A slice's block, if it has elements, is an array of limbs. -/
def Typed (w : World) (v : Value) : Prop := ∀ a n c, v = .slice (some a) n c → 0 < n → ∃ cs fr, w.heap[a.block]? = some (.cells cs 23 fr)

theorem Typed.below {w w' : World} {B : Nat} {v : Value} (h : Typed w v) (hb : Below B w w') (hB : w.heap.size ≤ B) : Typed w' v := by
  intro a n c e hn
  obtain ⟨cs, fr, hc⟩ := h a n c e hn
  exact ⟨cs, fr, (hb.block a.block (Nat.lt_of_lt_of_le (Array.getElem?_eq_some_iff.1 hc).1 hB)).trans hc⟩

/-- A slice of limbs: where there is one, they lie in memory. -/
structure Sl (w : World) (v : Value) (xs : List Nat) : Prop where
  form : ∃ ao cap, v = .slice ao xs.length cap ∧ xs.length ≤ cap ∧ cap ≤ maxLen ∧ (0 < xs.length → ∃ b off, ao = some ⟨b, off, none⟩ ∧ Row w b off xs)
  ok : Ok xs
  typ : Typed w v

theorem Sl.below {w w' : World} {B : Nat} {v : Value} {xs : List Nat} (h : Sl w v xs) (hb : Below B w w') (hB : w.heap.size ≤ B) : Sl w' v xs := by
  obtain ⟨⟨ao, cap, hv, h1, h2, h3⟩, hok, ht⟩ := h
  refine ⟨⟨ao, cap, hv, h1, h2, fun hn => ?_⟩, hok, ht.below hb hB⟩
  obtain ⟨b, off, ha, hr⟩ := h3 hn
  exact ⟨b, off, ha, hr.below hb (Nat.lt_of_lt_of_le (hr.lt hn) hB)⟩

theorem Sl.nil (w : World) : Sl w (.slice none 0 0) [] := ⟨⟨none, 0, rfl, Nat.le_refl _, by unfold maxLen; omega, fun h => absurd h (by simp)⟩, Ok.nil, fun a n c e _ => by cases e⟩

theorem Blk.new (w : World) (L : List Nat) : Blk (w.alloc (.cells (L.map u).toArray 23)) w.heap.size L := by
  refine ⟨[], ?_⟩
  show (w.heap.push _)[w.heap.size]? = _
  simp

theorem Blk.of_owned {w : World} {base n : Nat} {v : Value} {xs : List Nat} (h : w.ownsRow base 23 1 v n (xs.map u)) (hv : v ≠ .slice none 0 0) :
    ∃ b cap, v = .slice (some ⟨b, 0, none⟩) n cap ∧ base ≤ b ∧ Blk w b xs ∧ xs.length = n ∧ n ≤ cap ∧ cap ≤ maxLen := by
  obtain ⟨h1, ⟨h2, _⟩ | ⟨g, cap, cur, rfl, hb, hg, hn, hm, hs, ht⟩⟩ := h
  · exact absurd h2 hv
  · refine ⟨g, cap, rfl, hb, ⟨cur.toList.drop (n * 1), ?_⟩, by simpa using h1, hn, hm⟩
    rw [hg, ← ht, List.take_append_drop]

theorem Sl.of_blk {w : World} {b : Nat} {L : List Nat} (h : Blk w b L) (ok : Ok L) (off n cap : Nat) (hn : off + n ≤ L.length) (hc : n ≤ cap) (hm : cap ≤ maxLen) :
    Sl w (.slice (some ⟨b, off, none⟩) n cap) ((L.drop off).take n) := by
  have hl : ((L.drop off).take n).length = n := by rw [List.length_take, List.length_drop]; omega
  refine ⟨⟨some ⟨b, off, none⟩, cap, by rw [hl], by rw [hl]; exact hc, hm, fun _ => ⟨b, off, rfl, h.row off n hn⟩⟩, (ok.drop _).take _, fun a n' c e _ => by
    injection e with e
    injection e with e
    subst e
    obtain ⟨T, hT⟩ := h
    exact ⟨_, _, hT⟩⟩

/-- A natural: the limbs of n, the highest one not 0. -/
def IsNat (w : World) (v : Value) (n : Nat) : Prop := ∃ xs, Sl w v xs ∧ Trim xs ∧ val xs = n

theorem IsNat.below {w w' : World} {B n : Nat} {v : Value} (h : IsNat w v n) (hb : Below B w w') (hB : w.heap.size ≤ B) : IsNat w' v n := by
  obtain ⟨xs, h1, h2, h3⟩ := h
  exact ⟨xs, h1.below hb hB, h2, h3⟩

theorem IsNat.len {n : Nat} {xs : List Nat} (h2 : Trim xs) (h3 : val xs = n) {k : Nat} (hk : n < B ^ k) : xs.length ≤ k := by
  rcases xs with _ | ⟨x, xs⟩
  · simp
  · have h1 := val_pos_of_trim h2 (by simp)
    rw [h3] at h1
    have h4 : B ^ ((x :: xs).length - 1) < B ^ k := by omega
    have := (Nat.pow_lt_pow_iff_right (show 1 < B by decide)).1 h4
    simp at this ⊢
    omega

/-- What a call leaves that returns a natural: new memory at most. -/
def NatNew (w : World) (n : Nat) (e : Ending) (w' : World) : Prop := ∃ v, e = .returned v ∧ IsNat w' v n ∧ Below w.heap.size w w'

/-! Words of two limbs: plain definitions, so that no numeral of 64 bits comes into a walk. -/
def sumLo (x y : Nat) : Nat := (x + y) % B
def sumHi (x y : Nat) : Nat := (x + y) / B
def difLo (x y : Nat) : Nat := (x + B - y) % B
def difHi (x y : Nat) : Nat := if x < y then 1 else 0
def prodLo (x y : Nat) : Nat := x * y % B
def prodHi (x y : Nat) : Nat := x * y / B

theorem sum_eq (x y : Nat) : sumLo x y + B * sumHi x y = x + y := by unfold sumLo sumHi; have := Nat.div_add_mod (x + y) B; omega
theorem sumLo_lt (x y : Nat) : sumLo x y < B := Nat.mod_lt _ B_pos
theorem sumHi_le {x y : Nat} (hx : x < B) (hy : y < B) : sumHi x y ≤ 1 := by
  unfold sumHi
  have : (x + y) / B < 2 := Nat.div_lt_of_lt_mul (by omega)
  omega
theorem dif_eq {x y : Nat} (hx : x < B) (hy : y < B) : difLo x y + y = x + B * difHi x y := by
  unfold difLo difHi
  split
  · rw [Nat.mod_eq_of_lt (by omega)]; omega
  · rw [show x + B - y = x - y + B from by omega, Nat.add_mod_right, Nat.mod_eq_of_lt (by omega)]; omega
theorem difLo_lt (x y : Nat) : difLo x y < B := Nat.mod_lt _ B_pos
theorem difHi_le (x y : Nat) : difHi x y ≤ 1 := by unfold difHi; split <;> omega
theorem prod_eq (x y : Nat) : prodLo x y + B * prodHi x y = x * y := by unfold prodLo prodHi; have := Nat.div_add_mod (x * y) B; omega
theorem prodLo_lt (x y : Nat) : prodLo x y < B := Nat.mod_lt _ B_pos
theorem prodHi_lt {x y : Nat} (hx : x < B) (hy : y < B) : prodHi x y < B := by
  unfold prodHi
  refine Nat.div_lt_of_lt_mul ?_
  have h1 : x * y ≤ (B - 1) * y := Nat.mul_le_mul_right _ (by omega)
  have h2 : (B - 1) * y ≤ (B - 1) * B := Nat.mul_le_mul_left _ (by omega)
  have h3 : (B - 1) * B < B * B := (Nat.mul_lt_mul_right B_pos).2 (by have := B_pos; omega)
  omega

theorem wrap_nat {x : Nat} (h : x < B) : IntKind.u64.wrap (x : Int) = (x : Int) := by
  rw [IntKind.wrap_u64]
  unfold B at h
  omega
theorem wrap_add {x y : Nat} (h : x + y < B) : IntKind.u64.wrap ((x : Int) + (y : Int)) = ((x + y : Nat) : Int) := by
  rw [show ((x : Int) + (y : Int)) = ((x + y : Nat) : Int) from by omega, wrap_nat h]
theorem wrap_add3 {x y z : Nat} (h : x + y + z < B) : IntKind.u64.wrap (IntKind.u64.wrap ((x : Int) + (y : Int)) + (z : Int)) = ((x + y + z : Nat) : Int) := by
  rw [wrap_add (x := x) (y := y) (by omega), wrap_add h]
theorem wrap_sub {x y : Nat} (hx : x < B) (h : y ≤ x) : IntKind.u64.wrap ((x : Int) - (y : Int)) = ((x - y : Nat) : Int) := by
  rw [show ((x : Int) - (y : Int)) = ((x - y : Nat) : Int) from by omega, wrap_nat (by omega)]

end Go.Proofs.YtojploidgagmgaaGreatDoor

/- The contracts of what package exact does with limbs in their place: addMultiple, takeMultiple, divideByWord, trim. -/
namespace Go.Proofs.YtojploidgagmgaaGreatDoor
open Go Go.RowKit Go.Proofs Lim

theorem run_add64 (x y : Nat) (w : World) :
    (callFunc 156 #[.int .u64 (x : Int), .int .u64 (y : Int), .int .u64 0]).run Tryz.prog w =
      .ok (.value (.tuple #[u (sumLo x y), u (sumHi x y)])) w := by
  rw [run_callFunc_extern Tryz.func156 (by kernel_rfl) (by kernel_rfl) (by kernel_rfl) (e := add64Entry) (by kernel_rfl)]
  rfl

theorem run_sub64 (x y : Nat) (w : World) :
    (callFunc 187 #[.int .u64 (x : Int), .int .u64 (y : Int), .int .u64 0]).run Tryz.prog w =
      .ok (.value (.tuple #[u (difLo x y), u (difHi x y)])) w := by
  rw [run_callFunc_extern Tryz.func187 (by kernel_rfl) (by kernel_rfl) (by kernel_rfl) (e := sub64Entry) (by kernel_rfl)]
  rfl

theorem mul64 (x y : Nat) (hx : x < B) (hy : y < B) (w : World) :
    Calls Tryz.prog 139 #[u x, u y] w fun e w' => e = .returned (.tuple #[u (prodHi x y), u (prodLo x y)]) ∧ w = w' :=
  (Tryz.bits_Mul64 x y hx hy w).mono fun _ _ ⟨h, h'⟩ => ⟨h, h'.symm⟩

/-- One step of a sum of multiples. -/
theorem mul_step {s y f c : Nat} (hs : s < B) (hy : y < B) (hf : f < B) (hc : c < B) :
    sumLo s (sumLo (prodLo y f) c) + B * (prodHi y f + sumHi (prodLo y f) c + sumHi s (sumLo (prodLo y f) c)) = s + y * f + c ∧
      prodHi y f + sumHi (prodLo y f) c + sumHi s (sumLo (prodLo y f) c) < B := by
  have h1 := prod_eq y f
  have h2 := sum_eq (prodLo y f) c
  have h3 := sum_eq s (sumLo (prodLo y f) c)
  have e : sumLo s (sumLo (prodLo y f) c) + B * (prodHi y f + sumHi (prodLo y f) c + sumHi s (sumLo (prodLo y f) c)) = s + y * f + c := by
    rw [Nat.mul_add, Nat.mul_add]; omega
  refine ⟨e, ?_⟩
  have i1 : y * f ≤ (B - 1) * (B - 1) := Nat.mul_le_mul (by omega) (by omega)
  have i2 : (B - 1) * (B - 1) + 2 * (B - 1) + 1 = B * B := by
    have : B = (B - 1) + 1 := by have := B_pos; omega
    generalize B - 1 = k at *
    rw [this]; grind
  have i3 : B * (prodHi y f + sumHi (prodLo y f) c + sumHi s (sumLo (prodLo y f) c)) < B * B := by omega
  exact Nat.lt_of_mul_lt_mul_left i3


attribute [local go_sem] run_add64 run_sub64

/-- What an addition in its place has done to a block: the window from so on, of n limbs, has changed; c was too great for it. -/
structure Added (L L' : List Nat) (so n x c : Nat) : Prop where
  len : L'.length = L.length
  ok : Ok L'
  low : L'.take so = L.take so
  high : L'.drop (so + n) = L.drop (so + n)
  sum : val L' + B ^ (so + n) * c = val L + B ^ so * x

/-- ... and a subtraction; c was borrowed from above the window. -/
structure Taken (L L' : List Nat) (so n x c : Nat) : Prop where
  len : L'.length = L.length
  ok : Ok L'
  low : L'.take so = L.take so
  high : L'.drop (so + n) = L.drop (so + n)
  sum : val L' + B ^ so * x = val L + B ^ (so + n) * c

theorem take_set_lt (l : List Nat) (k v so : Nat) (h : so ≤ k) : (l.set k v).take so = l.take so := by
  rw [List.take_set, List.set_eq_of_length_le (by simp; omega)]
theorem drop_set_lt (l : List Nat) (k v so : Nat) (h : k < so) : (l.set k v).drop so = l.drop so := by
  rw [List.drop_set, if_pos h]

theorem Added.start (L : List Nat) (so : Nat) (h : Ok L) : Added L L so 0 0 0 := ⟨rfl, h, rfl, rfl, by simp⟩
theorem Taken.start (L : List Nat) (so : Nat) (h : Ok L) : Taken L L so 0 0 0 := ⟨rfl, h, rfl, rfl, by simp⟩

theorem Added.step {L L' : List Nat} {so k x c s' c' y : Nat} (h : Added L L' so k x c) (hk : so + k < L.length) (hs' : s' < B)
    (e : s' + B * c' = L'[so + k]?.getD 0 + y + c) : Added L (L'.set (so + k) s') so (k + 1) (x + B ^ k * y) c' := by
  refine ⟨by rw [List.length_set, h.len], h.ok.set _ _ hs', by rw [take_set_lt _ _ _ _ (by omega), h.low], ?_, ?_⟩
  · rw [drop_set_lt _ _ _ _ (by omega), show so + (k + 1) = so + k + 1 from rfl, ← List.drop_drop, h.high, List.drop_drop]
  · have h1 := val_set L' (so + k) s' (by rw [h.len]; exact hk)
    have h2 := h.sum
    have e2 : B ^ (so + k) * s' + B ^ (so + k) * B * c' = B ^ (so + k) * L'[so + k]?.getD 0 + B ^ (so + k) * y + B ^ (so + k) * c := by
      rw [Nat.mul_assoc, ← Nat.mul_add, e, Nat.mul_add, Nat.mul_add]
    have e3 : B ^ (so + (k + 1)) = B ^ (so + k) * B := by rw [← Nat.add_assoc, Nat.pow_succ]
    have e4 : B ^ so * (x + B ^ k * y) = B ^ so * x + B ^ (so + k) * y := by rw [Nat.mul_add, ← Nat.mul_assoc, ← Nat.pow_add]
    rw [e3, e4]
    omega

theorem Taken.step {L L' : List Nat} {so k x c s' c' y : Nat} (h : Taken L L' so k x c) (hk : so + k < L.length) (hs' : s' < B)
    (e : s' + y + c = L'[so + k]?.getD 0 + B * c') : Taken L (L'.set (so + k) s') so (k + 1) (x + B ^ k * y) c' := by
  refine ⟨by rw [List.length_set, h.len], h.ok.set _ _ hs', by rw [take_set_lt _ _ _ _ (by omega), h.low], ?_, ?_⟩
  · rw [drop_set_lt _ _ _ _ (by omega), show so + (k + 1) = so + k + 1 from rfl, ← List.drop_drop, h.high, List.drop_drop]
  · have h1 := val_set L' (so + k) s' (by rw [h.len]; exact hk)
    have h2 := h.sum
    have e2 : B ^ (so + k) * s' + B ^ (so + k) * y + B ^ (so + k) * c = B ^ (so + k) * L'[so + k]?.getD 0 + B ^ (so + k) * B * c' := by
      rw [Nat.mul_assoc, ← Nat.mul_add, ← Nat.mul_add, e, Nat.mul_add]
    have e3 : B ^ (so + (k + 1)) = B ^ (so + k) * B := by rw [← Nat.add_assoc, Nat.pow_succ]
    have e4 : B ^ so * (x + B ^ k * y) = B ^ so * x + B ^ (so + k) * y := by rw [Nat.mul_add, ← Nat.mul_assoc, ← Nat.pow_add]
    rw [e3, e4]
    omega

theorem Added.wider {L L' : List Nat} {so k n x : Nat} (h : Added L L' so k x 0) (hk : k ≤ n) : Added L L' so n x 0 := by
  refine ⟨h.len, h.ok, h.low, ?_, by simpa using h.sum⟩
  rw [show so + n = so + k + (n - k) from by omega, ← List.drop_drop, h.high, List.drop_drop]
theorem Taken.wider {L L' : List Nat} {so k n x : Nat} (h : Taken L L' so k x 0) (hk : k ≤ n) : Taken L L' so n x 0 := by
  refine ⟨h.len, h.ok, h.low, ?_, by simpa using h.sum⟩
  rw [show so + n = so + k + (n - k) from by omega, ← List.drop_drop, h.high, List.drop_drop]

/-- What addMultiple leaves. -/
def AddPost (w : World) (b so n : Nat) (L : List Nat) (x : Nat) (e : Ending) (w' : World) : Prop :=
  e = .returned (.tuple #[]) ∧ Only b w w' ∧ ∃ c L', Blk w' b L' ∧ Added L L' so n x c

/-- What a loop over the window knows. -/
def AddRel (w : World) (b so : Nat) (L : List Nat) (k x : Nat) (carry i : Value) (wr : World) : Prop :=
  ∃ c L', i = .int .i64 (k : Int) ∧ carry = u c ∧ c < B ∧ Blk wr b L' ∧ Added L L' so k x c ∧ Only b w wr

/-- addMultiple: what lies in the window becomes the sum, but for what does not fit there. -/
theorem addMultiple_any (b so n : Nat) (scap ycap : Nat) (L Y : List Nat) (ya : Option Addr) (f : Nat) (w : World)
    (hL : Blk w b L) (hn : so + n ≤ L.length) (hlen : Y.length ≤ n) (hmax : (n : Int) ≤ 4611686018427387904) (hf : f < B) (okL : Ok L) (okY : Ok Y)
    (hY : 0 < Y.length → ∃ yb yo, ya = some ⟨yb, yo, none⟩ ∧ yb ≠ b ∧ Row w yb yo Y) :
    Calls Tryz.prog 149 #[.slice (some ⟨b, so, none⟩) n scap, .slice ya Y.length ycap, u f] w (AddPost w b so n L (f * val Y)) := by
  have HY := Lib.hid hY
  have HL := Lib.hid hL
  have HokL := Lib.hid okL
  have HokY := Lib.hid okY
  clear hY hL okL okY
  go_enter Tryz.func149, Tryz.ntmps149
  go_wp2_with fail
  go_loopw [6, 15] (fun carry i wr => ∃ k, k ≤ Y.length ∧ AddRel w b so L k (f * val (Y.take k)) carry i wr) (fun _ i _ => Y.length - (intOf i).toNat)
  case atStart => exact ⟨0, Nat.zero_le _, 0, L, rfl, rfl, B_pos, HL.out, by simpa [val] using Added.start L so HokL.out, Only.refl b w⟩
  case round =>
    obtain ⟨k, hk, c, L', rfl, rfl, hc, hB, hA, hO⟩ := hrel
    by_cases hlt : k < Y.length
    · obtain ⟨yb, yo, rfl, hyb, hrow⟩ := HY.out (by omega)
      have hlen' : L'.length = L.length := hA.len
      have hyc : wr.cell? ⟨yb, yo + k, none⟩ = some (u (Y[k]?.getD 0)) := (hO.cell (p := ⟨yb, yo + k, none⟩) hyb).trans (hrow k hlt)
      have hsc : wr.cell? ⟨b, so + k, none⟩ = some (u (L'[so + k]?.getD 0)) := hB.cell (so + k) (by omega)
      have hfz : wr.frozen? ⟨b, so + k, none⟩ = false := hB.frozen _
      have hy : Y[k]?.getD 0 < B := HokY.out.get k
      have hs : L'[so + k]?.getD 0 < B := hA.ok.get _
      generalize hyg : Y[k]?.getD 0 = y at *
      generalize hsg : L'[so + k]?.getD 0 = s at *
      have HA := Lib.hid hA
      have HB := Lib.hid hB
      have HO := Lib.hid hO
      have H1 := Lib.hid hyg
      have H2 := Lib.hid hsg
      have H3 := Lib.hid hlen'
      have H4 := Lib.hid (mul_step hs hy hf hc)
      clear hA hB hO hyg hsg hlen' hrow
      go_wp2_with (go_at_call 139; refine (mul64 _ _ (by assumption) (by assumption) _).mono ?_; rintro e w' ⟨rfl, rfl⟩)
      go_roundw
      case rel =>
        refine ⟨k + 1, by omega, _, _, by go_num, by rw [wrap_add3 H4.out.2], H4.out.2, HB.out.set (so + k) _ (by have := HA.out.len; omega), ?_, HO.out.set (so + k) _⟩
        rw [val_take_succ _ _ hlt, H1.out, Nat.mul_add, show f * (B ^ k * y) = B ^ k * (y * f) from by grind]
        exact HA.out.step (by omega) (sumLo_lt _ _) (by rw [H2.out]; exact H4.out.1)
      case measure => simp [intOf]; omega
    · have hkn : k = Y.length := by omega
      subst hkn
      have HA := Lib.hid hA
      have HB := Lib.hid hB
      have HO := Lib.hid hO
      clear hA hB hO
      go_wp2_with fail
      have hle := hlen
      obtain ⟨k0, hk0⟩ : ∃ k0, k0 = Y.length := ⟨_, rfl⟩
      have HK := Lib.hid hk0
      obtain ⟨w1, hw1⟩ : ∃ w1, w1 = wr := ⟨_, rfl⟩
      subst hw1
      go_loopw [6, 12] (fun carry i wr => ∃ k, Y.length ≤ k ∧ k ≤ n ∧ AddRel w b so L k (f * val Y) carry i wr) (fun _ i _ => n - (intOf i).toNat)
      case atStart => exact ⟨Y.length, Nat.le_refl _, hlen, c, L', rfl, rfl, hc, HB.out, by simpa using HA.out, HO.out⟩
      case round =>
        clear HA HB HO
        obtain ⟨k, hk1, hk2, c, L', rfl, rfl, hc, hB, hA, hO⟩ := hrel
        have HA := Lib.hid hA
        have HB := Lib.hid hB
        have HO := Lib.hid hO
        clear hA hB hO
        by_cases hc0 : c = 0
        · have hcb : (((c : Nat) : Int) != 0) = false := by subst hc0; rfl
          clear hc0
          go_wp2_with fail
          go_end0
          refine ⟨rfl, HO.out, 0, L', HB.out, ?_⟩
          have h0 : c = 0 := by simpa using hcb
          subst h0
          exact HA.out.wider hk2
        · have hcb : (((c : Nat) : Int) != 0) = true := by rw [bne_iff_ne]; omega
          clear hc0
          by_cases hlt2 : k < n
          · have hlen' : L'.length = L.length := HA.out.len
            have hsc : wr.cell? ⟨b, so + k, none⟩ = some (u (L'[so + k]?.getD 0)) := HB.out.cell (so + k) (by omega)
            have hfz : wr.frozen? ⟨b, so + k, none⟩ = false := HB.out.frozen _
            generalize hsg : L'[so + k]?.getD 0 = s at *
            have H2 := Lib.hid hsg
            have H3 := Lib.hid hlen'
            have H4 := sum_eq s c
            have HH4 := Lib.hid H4
            clear H4 hsg hlen'
            go_wp2_with fail
            go_roundw
            case rel =>
              refine ⟨k + 1, by omega, by omega, _, _, by go_num, rfl, ?_, HB.out.set (so + k) _ (by have := HA.out.len; omega), ?_, HO.out.set (so + k) _⟩
              · exact Nat.lt_of_le_of_lt (sumHi_le (by rw [← H2.out]; exact HA.out.ok.get _) hc) (by decide)
              · have := HA.out.step (y := 0) (by omega) (sumLo_lt s c) (c' := sumHi s c) (by rw [H2.out, HH4.out]; omega)
                simpa using this
            case measure => simp [intOf]; omega
          · go_wp2_with fail
            go_end0
            obtain rfl : k = n := by omega
            exact ⟨rfl, HO.out, c, L', HB.out, HA.out⟩

/-- The same, by 1. -/
theorem addMultiple_one (b so n : Nat) (scap ycap : Nat) (L Y : List Nat) (ya : Option Addr) (w : World)
    (hL : Blk w b L) (hn : so + n ≤ L.length) (hlen : Y.length ≤ n) (hmax : (n : Int) ≤ 4611686018427387904) (okL : Ok L) (okY : Ok Y)
    (hY : 0 < Y.length → ∃ yb yo, ya = some ⟨yb, yo, none⟩ ∧ yb ≠ b ∧ Row w yb yo Y) :
    Calls Tryz.prog 149 #[.slice (some ⟨b, so, none⟩) n scap, .slice ya Y.length ycap, .int .u64 1] w (AddPost w b so n L (val Y)) := by
  have := addMultiple_any b so n scap ycap L Y ya 1 w hL hn hlen hmax (by decide) okL okY hY
  rw [Nat.one_mul] at this
  exact this

end Go.Proofs.YtojploidgagmgaaGreatDoor

/- takeMultiple: a multiple is taken from limbs in their place. -/
namespace Go.Proofs.YtojploidgagmgaaGreatDoor
open Go Go.RowKit Go.Proofs Lim
attribute [local go_sem] run_add64 run_sub64

/-- One step of a difference of multiples. -/
theorem take_step {s y f c : Nat} (hs : s < B) (hy : y < B) (hf : f < B) (hc : c < B) :
    difLo s (sumLo (prodLo y f) c) + y * f + c = s + B * (prodHi y f + sumHi (prodLo y f) c + difHi s (sumLo (prodLo y f) c)) ∧
      prodHi y f + sumHi (prodLo y f) c + difHi s (sumLo (prodLo y f) c) < B := by
  have h1 := prod_eq y f
  have h2 := sum_eq (prodLo y f) c
  have h3 := dif_eq hs (sumLo_lt (prodLo y f) c)
  have h4 := difLo_lt s (sumLo (prodLo y f) c)
  have e : difLo s (sumLo (prodLo y f) c) + y * f + c = s + B * (prodHi y f + sumHi (prodLo y f) c + difHi s (sumLo (prodLo y f) c)) := by
    rw [Nat.mul_add, Nat.mul_add]; omega
  refine ⟨e, ?_⟩
  have i1 : y * f ≤ (B - 1) * (B - 1) := Nat.mul_le_mul (by omega) (by omega)
  have i2 : (B - 1) * (B - 1) + 2 * (B - 1) + 1 = B * B := by
    have : B = (B - 1) + 1 := by have := B_pos; omega
    generalize B - 1 = k at *
    rw [this]; grind
  have i3 : B * (prodHi y f + sumHi (prodLo y f) c + difHi s (sumLo (prodLo y f) c)) < B * B := by omega
  exact Nat.lt_of_mul_lt_mul_left i3

/-- What takeMultiple leaves. -/
def TakePost (w : World) (b so n : Nat) (L : List Nat) (x : Nat) (e : Ending) (w' : World) : Prop :=
  ∃ c L', c < B ∧ e = .returned (u c) ∧ Only b w w' ∧ Blk w' b L' ∧ Taken L L' so n x c

/-- What a loop over the window knows. -/
def TakeRel (w : World) (b so : Nat) (L : List Nat) (k x : Nat) (carry i : Value) (wr : World) : Prop :=
  ∃ c L', i = .int .i64 (k : Int) ∧ carry = u c ∧ c < B ∧ Blk wr b L' ∧ Taken L L' so k x c ∧ Only b w wr

/-- takeMultiple: what lies in the window becomes the sum, but for what does not fit there. -/
theorem takeMultiple_any (b so n : Nat) (scap ycap : Nat) (L Y : List Nat) (ya : Option Addr) (f : Nat) (w : World)
    (hL : Blk w b L) (hn : so + n ≤ L.length) (hlen : Y.length ≤ n) (hmax : (n : Int) ≤ 4611686018427387904) (hf : f < B) (okL : Ok L) (okY : Ok Y)
    (hY : 0 < Y.length → ∃ yb yo, ya = some ⟨yb, yo, none⟩ ∧ yb ≠ b ∧ Row w yb yo Y) :
    Calls Tryz.prog 178 #[.slice (some ⟨b, so, none⟩) n scap, .slice ya Y.length ycap, u f] w (TakePost w b so n L (f * val Y)) := by
  have HY := Lib.hid hY
  have HL := Lib.hid hL
  have HokL := Lib.hid okL
  have HokY := Lib.hid okY
  clear hY hL okL okY
  go_enter Tryz.func178, Tryz.ntmps178
  go_wp2_with fail
  go_loopw [6, 15] (fun carry i wr => ∃ k, k ≤ Y.length ∧ TakeRel w b so L k (f * val (Y.take k)) carry i wr) (fun _ i _ => Y.length - (intOf i).toNat)
  case atStart => exact ⟨0, Nat.zero_le _, 0, L, rfl, rfl, B_pos, HL.out, by simpa [val] using Taken.start L so HokL.out, Only.refl b w⟩
  case round =>
    obtain ⟨k, hk, c, L', rfl, rfl, hc, hB, hA, hO⟩ := hrel
    by_cases hlt : k < Y.length
    · obtain ⟨yb, yo, rfl, hyb, hrow⟩ := HY.out (by omega)
      have hlen' : L'.length = L.length := hA.len
      have hyc : wr.cell? ⟨yb, yo + k, none⟩ = some (u (Y[k]?.getD 0)) := (hO.cell (p := ⟨yb, yo + k, none⟩) hyb).trans (hrow k hlt)
      have hsc : wr.cell? ⟨b, so + k, none⟩ = some (u (L'[so + k]?.getD 0)) := hB.cell (so + k) (by omega)
      have hfz : wr.frozen? ⟨b, so + k, none⟩ = false := hB.frozen _
      have hy : Y[k]?.getD 0 < B := HokY.out.get k
      have hs : L'[so + k]?.getD 0 < B := hA.ok.get _
      generalize hyg : Y[k]?.getD 0 = y at *
      generalize hsg : L'[so + k]?.getD 0 = s at *
      have HA := Lib.hid hA
      have HB := Lib.hid hB
      have HO := Lib.hid hO
      have H1 := Lib.hid hyg
      have H2 := Lib.hid hsg
      have H3 := Lib.hid hlen'
      have H4 := Lib.hid (take_step hs hy hf hc)
      clear hA hB hO hyg hsg hlen' hrow
      go_wp2_with (go_at_call 139; refine (mul64 _ _ (by assumption) (by assumption) _).mono ?_; rintro e w' ⟨rfl, rfl⟩)
      go_roundw
      case rel =>
        refine ⟨k + 1, by omega, _, _, by go_num, by rw [wrap_add3 H4.out.2], H4.out.2, HB.out.set (so + k) _ (by have := HA.out.len; omega), ?_, HO.out.set (so + k) _⟩
        rw [val_take_succ _ _ hlt, H1.out, Nat.mul_add, show f * (B ^ k * y) = B ^ k * (y * f) from by grind]
        exact HA.out.step (by omega) (difLo_lt _ _) (by rw [H2.out]; exact H4.out.1)
      case measure => simp [intOf]; omega
    · have hkn : k = Y.length := by omega
      subst hkn
      have HA := Lib.hid hA
      have HB := Lib.hid hB
      have HO := Lib.hid hO
      clear hA hB hO
      go_wp2_with fail
      have hle := hlen
      obtain ⟨k0, hk0⟩ : ∃ k0, k0 = Y.length := ⟨_, rfl⟩
      have HK := Lib.hid hk0
      obtain ⟨w1, hw1⟩ : ∃ w1, w1 = wr := ⟨_, rfl⟩
      subst hw1
      go_loopw [6, 12] (fun carry i wr => ∃ k, Y.length ≤ k ∧ k ≤ n ∧ TakeRel w b so L k (f * val Y) carry i wr) (fun _ i _ => n - (intOf i).toNat)
      case atStart => exact ⟨Y.length, Nat.le_refl _, hlen, c, L', rfl, rfl, hc, HB.out, by simpa using HA.out, HO.out⟩
      case round =>
        clear HA HB HO
        obtain ⟨k, hk1, hk2, c, L', rfl, rfl, hc, hB, hA, hO⟩ := hrel
        have HA := Lib.hid hA
        have HB := Lib.hid hB
        have HO := Lib.hid hO
        clear hA hB hO
        by_cases hc0 : c = 0
        · have hcb : (((c : Nat) : Int) != 0) = false := by subst hc0; rfl
          clear hc0
          go_wp2_with fail
          go_ret
          have h0 : c = 0 := by simpa using hcb
          subst h0
          exact ⟨0, L', B_pos, rfl, HO.out, HB.out, HA.out.wider hk2⟩
        · have hcb : (((c : Nat) : Int) != 0) = true := by rw [bne_iff_ne]; omega
          clear hc0
          by_cases hlt2 : k < n
          · have hlen' : L'.length = L.length := HA.out.len
            have hsc : wr.cell? ⟨b, so + k, none⟩ = some (u (L'[so + k]?.getD 0)) := HB.out.cell (so + k) (by omega)
            have hfz : wr.frozen? ⟨b, so + k, none⟩ = false := HB.out.frozen _
            generalize hsg : L'[so + k]?.getD 0 = s at *
            have H2 := Lib.hid hsg
            have H3 := Lib.hid hlen'
            have H4 := dif_eq (x := s) (y := c) (by rw [← hsg]; exact HA.out.ok.get _) hc
            have HH4 := Lib.hid H4
            clear H4 hsg hlen'
            go_wp2_with fail
            go_roundw
            case rel =>
              refine ⟨k + 1, by omega, by omega, _, _, by go_num, rfl, ?_, HB.out.set (so + k) _ (by have := HA.out.len; omega), ?_, HO.out.set (so + k) _⟩
              · exact Nat.lt_of_le_of_lt (difHi_le s c) (by decide)
              · have := HA.out.step (y := 0) (by omega) (difLo_lt s c) (c' := difHi s c) (by rw [H2.out, ← HH4.out]; omega)
                simpa using this
            case measure => simp [intOf]; omega
          · go_wp2_with fail
            go_ret
            obtain rfl : k = n := by omega
            exact ⟨c, L', hc, rfl, HO.out, HB.out, HA.out⟩

/-- The same, by 1. -/
theorem takeMultiple_one (b so n : Nat) (scap ycap : Nat) (L Y : List Nat) (ya : Option Addr) (w : World)
    (hL : Blk w b L) (hn : so + n ≤ L.length) (hlen : Y.length ≤ n) (hmax : (n : Int) ≤ 4611686018427387904) (okL : Ok L) (okY : Ok Y)
    (hY : 0 < Y.length → ∃ yb yo, ya = some ⟨yb, yo, none⟩ ∧ yb ≠ b ∧ Row w yb yo Y) :
    Calls Tryz.prog 178 #[.slice (some ⟨b, so, none⟩) n scap, .slice ya Y.length ycap, .int .u64 1] w (TakePost w b so n L (val Y)) := by
  have := takeMultiple_any b so n scap ycap L Y ya 1 w hL hn hlen hmax (by decide) okL okY hY
  rw [Nat.one_mul] at this
  exact this

end Go.Proofs.YtojploidgagmgaaGreatDoor

/- trim, word: limbs become a natural. -/
namespace Go.Proofs.YtojploidgagmgaaGreatDoor
open Go Go.RowKit Go.Proofs Lim

theorem val_take_zero {l : List Nat} {k : Nat} (hk : k < l.length) (h0 : l[k]?.getD 0 = 0) : val (l.take (k + 1)) = val (l.take k) := by
  rw [val_take_succ l k hk, h0]; simp

theorem trim_take {l : List Nat} {k : Nat} (hk : k < l.length) (h0 : l[k]?.getD 0 ≠ 0) : Trim (l.take (k + 1)) := by
  intro hne
  simp only [take_succ_get l k hk, List.getLast_append, List.getLast_singleton]
  simpa using h0

/-- What a call that only reads leaves: a natural. -/
def NatPost (w : World) (n : Nat) (e : Ending) (w' : World) : Prop := ∃ v, e = .returned v ∧ IsNat w v n ∧ w = w'

theorem trim_any (xs : List Nat) (v : Value) (w : World) (hv : Sl w v xs) (hmax : (xs.length : Int) ≤ 4611686018427387904) :
    Calls Tryz.prog 150 #[v] w (NatPost w (val xs)) := by
  obtain ⟨⟨ao, cap, rfl, hc1, hc2, hr⟩, hok, typ⟩ := hv
  have HTy := Lib.hid typ
  clear typ
  unfold maxLen at hc2
  have HR := Lib.hid hr
  have HO := Lib.hid hok
  clear hr hok
  go_enter Tryz.func150, Tryz.ntmps150
  go_wp2_with fail
  go_loop [3] (fun i => ∃ k, k ≤ xs.length ∧ i = .int .i64 (k : Int) ∧ val (xs.take k) = val xs) (fun i => (intOf i).toNat)
  case atStart => exact ⟨xs.length, Nat.le_refl _, rfl, by simp⟩
  case round =>
    obtain ⟨k, hk, rfl, hval⟩ := hrel
    have HV := Lib.hid hval
    clear hval
    by_cases hk0 : 0 < k
    · obtain ⟨j, rfl⟩ : ∃ j, k = j + 1 := ⟨k - 1, by omega⟩
      obtain ⟨b, off, rfl, hrow⟩ := HR.out (by omega)
      have hcell : w.cell? ⟨b, off + j, none⟩ = some (u (xs[j]?.getD 0)) := hrow j (by omega)
      have HRow := Lib.hid hrow
      clear hrow
      by_cases hz : xs[j]?.getD 0 = 0
      · have hzz := hz
        rw [hz] at hcell
        have HZ := Lib.hid hzz
        clear hz hzz
        go_wp2_with fail
        go_round
        case rel => exact ⟨j, by omega, rfl, by rw [← HV.out, val_take_zero (by omega) HZ.out]⟩
        case measure => simp [intOf]
      · have HZ := Lib.hid hz
        have hb : (((xs[j]?.getD 0 : Nat) : Int) == 0) = false := by rw [beq_eq_false_iff_ne]; omega
        generalize hsg : xs[j]?.getD 0 = s at *
        have H2 := Lib.hid hsg
        clear hsg hz
        go_wp2_with fail
        go_ret
        have hlt : (xs.take (j + 1)).length = j + 1 := by rw [List.length_take]; omega
        refine ⟨_, rfl, ⟨xs.take (j + 1), ⟨⟨some ⟨b, off, none⟩, j + 1, by rw [hlt]; rfl, by omega, by unfold maxLen; omega, fun _ => ⟨b, off, rfl, ?_⟩⟩, HO.out.take _, ?_⟩, trim_take (by omega) (by rw [H2.out]; intro h; subst h; simp at hb), HV.out⟩, rfl⟩
        · intro i hi
          rw [HRow.out i (by omega), List.getElem?_take, if_pos (by omega)]
        · intro a n c e _
          injection e with e
          exact HTy.out a _ _ (by rw [e]) (by omega)
    · obtain rfl : k = 0 := by omega
      clear hk0
      go_wp2_with fail
      go_ret
      refine ⟨_, rfl, ⟨[], ⟨⟨ao, 0, rfl, by simp, by unfold maxLen; omega, fun h => absurd h (by simp)⟩, Ok.nil, fun a n c e hn => by injection e with _ e; omega⟩, fun h => absurd rfl h, by simpa using HV.out⟩, rfl⟩

/-- word: a natural of at most one limb. -/
theorem word_any (x : Nat) (w : World) (hx : x < B) : Calls Tryz.prog 126 #[u x] w (NatNew w x) := by
  go_enter Tryz.func126, Tryz.ntmps126
  go_wp2_with fail
  have hb : Blk (w.alloc (.cells ([x].map u).toArray 23)) w.heap.size [x] := Blk.new w [x]
  have hs := Sl.of_blk hb (Ok.nil.cons hx) 0 1 1 (by simp) (by simp) (by unfold maxLen; omega)
  refine (trim_any [x] _ _ hs (by simp)).mono ?_
  rintro e w' ⟨v, rfl, hn, rfl⟩
  go_wp2_with fail
  go_ret
  exact ⟨v, rfl, by simpa [val] using hn, (Below.refl _ _).alloc (Nat.le_refl _) _⟩

end Go.Proofs.YtojploidgagmgaaGreatDoor

/- slices.Clone of limbs. -/
namespace Go.Proofs.YtojploidgagmgaaGreatDoor
open Go Go.RowKit Go.Proofs Lim

theorem info_u64 : (Tryz.prog.info? 23).map (fun i => (i.zero, i.size, i.bytes)) = some (some (.int .u64 0), 1, 8) := by kernel_rfl

/-- What slices.Clone leaves: limbs in a block of their own. -/
def ClonePost (w : World) (xs : List Nat) (e : Ending) (w' : World) : Prop :=
  ∃ b cap, e = .returned (.slice (some ⟨b, 0, none⟩) xs.length cap) ∧ w.heap.size ≤ b ∧ Blk w' b xs ∧ xs.length ≤ cap ∧ cap ≤ maxLen ∧ Below w.heap.size w w'

theorem clone_any (a : Addr) (xs : List Nat) (cap : Nat) (w : World) (hbig : (xs.length : Int) ≤ 1099511627776) (hr : ∀ j, j < xs.length → w.cell? (a.add j) = some (u (xs[j]?.getD 0))) :
    Calls Tryz.prog 153 #[.slice (some a) xs.length cap] w (ClonePost w xs) := by
  obtain ⟨i0, hi, hz0, hz1, hz2⟩ := info_parts info_u64
  have q : ∀ (w : World) (a : Option Addr) (n c n' c' : Nat), (binOp .eql 117 (.slice a n c) (.slice none n' c')).run Tryz.prog w = .ok (.bool a.isNone) w := fun w a n c n' c' => Lib.run_eql_slice_nil w _ _ a n c n' c' Tryz.underlying117
  have A := Lib.hid hr
  clear hr
  go_enter Tryz.func153, Tryz.ntmps153
  go_wp2_with (at_builtin; refine wpList_append_own _ rfl _ _ 117 rfl w.heap.size 23 i0 (.int .u64 0) 1 8 Tryz.underlying117 hi hz0 hz1 hz2 rfl (by decide) _ _ _ rfl (World.ownsRow_made w #[] 0 (Nat.le_refl _) (Nat.zero_le _) rfl) a xs.length cap (xs.map u) rfl ?qc1 ?qc2 ?qc3 ?qc4 ?qc5 ?qc6 ?_)
  case qc1 => simp
  case qc2 =>
    intro j v hj
    have hjn : j < xs.length := by
      have := (List.getElem?_eq_some_iff.1 hj).1
      simpa using this
    refine Lib.cell?_alloc_some _ ?_
    rw [A.out j hjn]
    rw [List.getElem?_map, List.getElem?_eq_getElem hjn] at hj
    rw [List.getElem?_eq_getElem hjn]
    exact hj
  case qc3 => intro v hv; obtain ⟨x, _, rfl⟩ := List.mem_map.1 hv; rfl
  case qc4 => unfold maxLen; omega
  case qc5 => omega
  case qc6 => simp
  intro v' w1 hown hgrow hnil
  go_wp2
  go_ret
  obtain ⟨b, cap', rfl, hb, hB, hl, h1, h2⟩ := Blk.of_owned (xs := xs) (by simpa using hown) hnil
  refine ⟨b, cap', rfl, hb, hB, by omega, h2, ?_⟩
  exact ((Below.refl _ w).alloc (Nat.le_refl _) _).grown hgrow (by simp) (by intro k hk; simp [Value.ownBlock] at hk; omega)

theorem clone_nil (n cap : Nat) (w : World) :
    Calls Tryz.prog 153 #[.slice none n cap] w fun e w' => e = .returned (.slice none 0 0) ∧ w = w' := by
  have q : ∀ (w : World) (a : Option Addr) (n c n' c' : Nat), (binOp .eql 117 (.slice a n c) (.slice none n' c')).run Tryz.prog w = .ok (.bool a.isNone) w := fun w a n c n' c' => Lib.run_eql_slice_nil w _ _ a n c n' c' Tryz.underlying117
  go_enter Tryz.func153, Tryz.ntmps153
  go_wp2
  go_ret
  exact ⟨rfl, rfl⟩

end Go.Proofs.YtojploidgagmgaaGreatDoor

/- natural.isOne. -/
namespace Go.Proofs.YtojploidgagmgaaGreatDoor
open Go Go.RowKit Go.Proofs Lim

/-- A natural is 1 just if it is the one limb 1. -/
theorem one_of_len {xs : List Nat} (ht : Trim xs) (hv : val xs = 1) : xs = [1] := by
  have hl := IsNat.len (k := 1) ht hv (by decide)
  rcases xs with _ | ⟨x, _ | ⟨y, xs⟩⟩
  · simp [val] at hv
  · simp [val] at hv; rw [hv]
  · simp at hl

theorem isOne_any (v : Value) (n : Nat) (w : World) (h : IsNat w v n) :
    Calls Tryz.prog 148 #[v] w (fun e w' => e = .returned (.bool (decide (n = 1))) ∧ w = w') := by
  obtain ⟨xs, ⟨⟨xa, xc, rfl, h1, h2, hr⟩, ok⟩, ht, rfl⟩ := h
  unfold maxLen at h2
  by_cases hl : xs.length = 1
  · obtain ⟨x, rfl⟩ : ∃ x, xs = [x] := by
      rcases xs with _ | ⟨x, _ | ⟨z, xs⟩⟩
      · simp at hl
      · exact ⟨x, rfl⟩
      · simp at hl
    obtain ⟨b, o, rfl, row⟩ := hr (by simp)
    have cx : w.cell? ⟨b, o, none⟩ = some (u x) := row 0 (by simp)
    have hv : val [x] = x := by simp [val]
    rw [hv]
    clear hv row hr ok ht hl
    simp only [List.length_singleton] at *
    have hb : (((x : Nat) : Int) == 1) = decide (x = 1) := by rw [Bool.eq_iff_iff]; simp; omega
    go_enter Tryz.func148, Tryz.ntmps148
    go_wp2_with fail
    go_ret
    exact ⟨rfl, rfl⟩
  · have hb : (((xs.length : Nat) : Int) == 1) = false := by rw [beq_eq_false_iff_ne]; omega
    have hn : decide (val xs = 1) = false := by
      rw [decide_eq_false_iff_not]
      intro e
      have := one_of_len ht e
      subst this
      exact hl rfl
    rw [hn]
    clear hr ok ht hl hn
    go_enter Tryz.func148, Tryz.ntmps148
    go_wp2_with fail
    go_ret
    exact ⟨rfl, rfl⟩

theorem isOne_yes (v : Value) (n : Nat) (w : World) (h : IsNat w v n) (hn : n = 1) :
    Calls Tryz.prog 148 #[v] w (fun e w' => e = .returned (.bool true) ∧ w = w') := by
  have := isOne_any v n w h
  rwa [decide_eq_true hn] at this

theorem isOne_no (v : Value) (n : Nat) (w : World) (h : IsNat w v n) (hn : ¬ n = 1) :
    Calls Tryz.prog 148 #[v] w (fun e w' => e = .returned (.bool false) ∧ w = w') := by
  have := isOne_any v n w h
  rwa [decide_eq_false hn] at this

end Go.Proofs.YtojploidgagmgaaGreatDoor

/- natural.plus, natural.times, natural.minus. -/
namespace Go.Proofs.YtojploidgagmgaaGreatDoor
open Go Go.RowKit Go.Proofs Lim

theorem made_cells (n : Nat) : (madeCells #[Value.int .u64 0] n).toList = (List.replicate n 0).map u := by
  have h : (fun x => (#[Value.int .u64 0] : Array Value)[x % 1]!) = fun _ => u 0 := by funext x; simp [Nat.mod_one]
  show ((Array.range n).map (fun x => (#[Value.int .u64 0] : Array Value)[x % 1]!)).toList = _
  rw [h]
  simp [List.map_const']

/-- What make leaves: zeros in a block of their own. -/
theorem made_blk {w w1 : World} {n : Nat} (hown : w1.ownsRow w.heap.size 23 1 (.slice (some ⟨w.heap.size, 0, none⟩) n n) n (madeCells #[Value.int .u64 0] n).toList)
    (hgrow : w.grownBy w1 none) : Blk w1 w.heap.size (List.replicate n 0) ∧ Below w.heap.size w w1 := by
  rw [made_cells] at hown
  obtain ⟨b, cap, hv, hb, hB, hl, h1, h2⟩ := Blk.of_owned hown (by simp)
  injection hv with hv1 hv2 hv3
  injection hv1 with hv1
  injection hv1 with hv1
  subst hv1
  exact ⟨hB, (Below.refl _ w).grown hgrow (Nat.le_refl _) (by intro k hk; cases hk)⟩

theorem size_u64 : (Tryz.prog.info? 23).map (·.size) = some 1 := by kernel_rfl

theorem splice_low (xs : List Nat) (r : Nat) (T : List Value) : splice ((List.replicate (xs.length + r) 0).map u ++ T) 0 (xs.map u) = (xs ++ List.replicate r 0).map u ++ T := by
  simp only [splice, List.take_zero, List.nil_append, Nat.zero_add, List.length_map, List.map_append, List.append_assoc, List.map_replicate]
  rw [List.drop_append_of_le_length (by simp)]
  simp

theorem splice_low' (xs : List Nat) (T : List Value) : splice (List.replicate (xs.length + 1) (u 0) ++ T) 0 (xs.map u) = (xs ++ [0]).map u ++ T := by
  have := splice_low xs 1 T
  rw [List.map_replicate] at this
  exact this

theorem rows_of {w : World} {xa : Option Addr} {xs : List Nat} (h : 0 < xs.length → ∃ b off, xa = some ⟨b, off, none⟩ ∧ Row w b off xs) {w1 : World} {N : Nat} (hb : Below N w w1) (hN : w.heap.size ≤ N) :
    0 < (xs.map u).length → ∃ ad, xa = some ad ∧ ∀ j v, (xs.map u)[j]? = some v → w1.cell? (ad.add j) = some v := by
  intro hp
  rw [List.length_map] at hp
  obtain ⟨b, off, rfl, hr⟩ := h hp
  refine ⟨_, rfl, fun j v hv => ?_⟩
  have hj : j < xs.length := by have := (List.getElem?_eq_some_iff.1 hv).1; simpa using this
  rw [Addr.add_lit]
  rw [(hr.below hb (Nat.lt_of_lt_of_le (hr.lt hp) hN)) j hj]
  rw [List.getElem?_map, List.getElem?_eq_getElem hj] at hv
  rw [List.getElem?_eq_getElem hj]
  exact hv

theorem rows_ne {w : World} {xa : Option Addr} {xs : List Nat} (h : 0 < xs.length → ∃ b off, xa = some ⟨b, off, none⟩ ∧ Row w b off xs) {w1 : World} {N : Nat} (hb : Below N w w1) (hN : w.heap.size ≤ N) :
    0 < xs.length → ∃ b off, xa = some ⟨b, off, none⟩ ∧ b ≠ w.heap.size ∧ Row w1 b off xs := by
  intro hp
  obtain ⟨b, off, rfl, hr⟩ := h hp
  have := hr.lt hp
  exact ⟨b, off, rfl, by omega, hr.below hb (by omega)⟩

theorem two_le_B : 2 ≤ B := by decide
theorem added_val0 {xs ys L' : List Nat} {c : Nat} (h : Added (xs ++ [0]) L' 0 (xs.length + 1) (val ys) c) :
    val L' + B ^ xs.length * B * c = val xs + val ys := by
  have h1 := h.sum
  have e : val (xs ++ [0]) = val xs := by rw [val_append, val_cons, val_nil]; simp
  rw [Nat.zero_add, Nat.pow_zero, Nat.one_mul, e, Nat.pow_succ] at h1
  exact h1
theorem no_carry (P Q V X Y c : Nat) (Bs : Nat) (h1 : V + P * Bs * c = X + Y) (hX : X < P) (hY : Y < Q) (h4 : Q ≤ P) (h2 : 2 ≤ Bs) : V = X + Y := by
  rcases Nat.eq_zero_or_pos c with h0 | h0
  · subst h0; simpa using h1
  · have h5 : P * 2 ≤ P * Bs := Nat.mul_le_mul_left _ h2
    have h6 : P * Bs * 1 ≤ P * Bs * c := Nat.mul_le_mul_left _ h0
    omega
theorem added_val {xs ys L' : List Nat} {c : Nat} (h : Added (xs ++ [0]) L' 0 (xs.length + 1) (val ys) c) (ok1 : Ok xs) (ok2 : Ok ys) (hl : ys.length ≤ xs.length) :
    val L' = val xs + val ys :=
  no_carry _ _ _ _ _ _ _ (added_val0 h) (val_lt ok1) (val_lt ok2) (Nat.pow_le_pow_right B_pos hl) two_le_B

theorem plus_any (v1 v2 : Value) (m n k : Nat) (w : World) (h1 : IsNat w v1 m) (h2 : IsNat w v2 n) (hm : m < B ^ k) (hn : n < B ^ k) (hk : (k : Int) ≤ 1073741824) :
    Calls Tryz.prog 125 #[v1, v2] w (NatNew w (m + n)) := by
  obtain ⟨xs, s1, t1, e1⟩ := h1
  obtain ⟨ys, s2, t2, e2⟩ := h2
  have lx := IsNat.len t1 e1 hm
  have ly := IsNat.len t2 e2 hn
  obtain ⟨⟨xa, xc, rfl, hc1, hc2, hr1⟩, ok1⟩ := s1
  obtain ⟨⟨ya, yc, rfl, hd1, hd2, hr2⟩, ok2⟩ := s2
  obtain ⟨i0, hi, hz0, hz1, hz2⟩ := info_parts info_u64
  unfold maxLen at hc2 hd2
  by_cases hl : xs.length < ys.length
  · have HR2 := Lib.hid hr2
    have HR1 := Lib.hid hr1
    have HO2 := Lib.hid ok2
    have HO1 := Lib.hid ok1
    have HE2 := Lib.hid e2
    have HE1 := Lib.hid e1
    clear hr2 hr1 ok2 ok1 e2 e1 t1 t2 hm hn
    go_enter Tryz.func125, Tryz.ntmps125
    go_wp2_with (at_make; refine wpList_make_full _ rfl _ _ 116 rfl w.heap.size 23 i0 (.int .u64 0) 1 Tryz.underlying116 hi hz0 hz1 _ _ _ _ (ys.length + 1) rfl rfl (by omega) (by omega) ?qd2 ?qd3 ?qd4 ?_)
    case qd2 => rw [hz2]; omega
    case qd3 => unfold maxLen; omega
    case qd4 => exact Nat.le_refl _
    intro w1 hown hgrow
    obtain ⟨hB1, hbel⟩ := made_blk hown hgrow
    clear hown hgrow
    obtain ⟨T, hT⟩ := hB1
    have HT := Lib.hid hT
    have HBel := Lib.hid hbel
    clear hT hbel
    go_wp2_with (with_reducible refine wpList_copy_splice rfl (.tmp 17) (.tmp 18) 116 117 rfl 23 Tryz.underlying116 size_u64 _ _ _ _ _ _ rfl rfl w.heap.size 0 _ _ HT.out (ys.map u) ?qe1 ?qe2 ?qe3 ?qe4 w.heap.size w HBel.out (Nat.le_refl _) ?_)
    case qe1 => simp
    case qe2 => simpa using rows_of HR2.out HBel.out (Nat.le_refl _)
    case qe3 => simp; omega
    case qe4 => intro v hv; obtain ⟨x, _, rfl⟩ := List.mem_map.1 hv; rfl
    intro w2 hT2 hbel2
    have hB2 : Blk w2 w.heap.size (ys ++ [0]) := ⟨T, by have := hT2.out; rw [this, splice_low' ys T]⟩
    clear hT2 HT HBel
    have HB2 := Lib.hid hB2
    have HBel2 := Lib.hid hbel2
    clear hB2 hbel2
    go_wp2_with fail
    refine (addMultiple_one w.heap.size 0 (ys.length + 1) _ _ (ys ++ [0]) xs xa w2 HB2.out (by simp) (by omega) (by omega) (HO2.out.append (Ok.nil.cons B_pos)) HO1.out (rows_ne HR1.out HBel2.out (Nat.le_refl _))).mono ?_
    rintro e w3 ⟨rfl, hO3, c, L', hB3, hA⟩
    have hv := added_val hA HO2.out HO1.out (by omega)
    have hlen : L'.length = ys.length + 1 := by rw [hA.len]; simp
    have hs := Sl.of_blk hB3 hA.ok 0 (ys.length + 1) (ys.length + 1) (by omega) (Nat.le_refl _) (by unfold maxLen; omega)
    rw [List.drop_zero, ← hlen, List.take_length, hlen] at hs
    have hb3 : Below w.heap.size w w3 := HBel2.out.trans (hO3.below (Nat.le_refl _))
    have HS := Lib.hid hs
    have HB3 := Lib.hid hb3
    have HV := Lib.hid hv
    have HLen := Lib.hid hlen
    clear hs hb3 hv hlen hA hB3 hO3
    go_wp2_with fail
    refine (trim_any L' _ _ HS.out (by rw [HLen.out]; omega)).mono ?_
    rintro e w4 ⟨v, rfl, hnat, rfl⟩
    have HN := Lib.hid hnat
    clear hnat
    go_wp2_with fail
    go_ret
    refine ⟨v, rfl, ?_, HB3.out⟩
    have := HN.out
    rw [HV.out, HE2.out, HE1.out, Nat.add_comm] at this
    exact this
  · have HR1 := Lib.hid hr1
    have HR2 := Lib.hid hr2
    have HO1 := Lib.hid ok1
    have HO2 := Lib.hid ok2
    have HE1 := Lib.hid e1
    have HE2 := Lib.hid e2
    clear hr1 hr2 ok1 ok2 e1 e2 t1 t2 hm hn
    go_enter Tryz.func125, Tryz.ntmps125
    go_wp2_with (at_make; refine wpList_make_full _ rfl _ _ 116 rfl w.heap.size 23 i0 (.int .u64 0) 1 Tryz.underlying116 hi hz0 hz1 _ _ _ _ (xs.length + 1) rfl rfl (by omega) (by omega) ?qb2 ?qb3 ?qb4 ?_)
    case qb2 => rw [hz2]; omega
    case qb3 => unfold maxLen; omega
    case qb4 => exact Nat.le_refl _
    intro w1 hown hgrow
    obtain ⟨hB1, hbel⟩ := made_blk hown hgrow
    clear hown hgrow
    obtain ⟨T, hT⟩ := hB1
    have HT := Lib.hid hT
    have HBel := Lib.hid hbel
    clear hT hbel
    go_wp2_with (with_reducible refine wpList_copy_splice rfl (.tmp 17) (.tmp 18) 116 117 rfl 23 Tryz.underlying116 size_u64 _ _ _ _ _ _ rfl rfl w.heap.size 0 _ _ HT.out (xs.map u) ?qc1 ?qc2 ?qc3 ?qc4 w.heap.size w HBel.out (Nat.le_refl _) ?_)
    case qc1 => simp
    case qc2 => simpa using rows_of HR1.out HBel.out (Nat.le_refl _)
    case qc3 => simp; omega
    case qc4 => intro v hv; obtain ⟨x, _, rfl⟩ := List.mem_map.1 hv; rfl
    intro w2 hT2 hbel2
    have hB2 : Blk w2 w.heap.size (xs ++ [0]) := ⟨T, by have := hT2.out; rw [this, splice_low' xs T]⟩
    clear hT2 HT HBel
    have HB2 := Lib.hid hB2
    have HBel2 := Lib.hid hbel2
    clear hB2 hbel2
    go_wp2_with fail
    refine (addMultiple_one w.heap.size 0 (xs.length + 1) _ _ (xs ++ [0]) ys ya w2 HB2.out (by simp) (by omega) (by omega) (HO1.out.append (Ok.nil.cons B_pos)) HO2.out (rows_ne HR2.out HBel2.out (Nat.le_refl _))).mono ?_
    rintro e w3 ⟨rfl, hO3, c, L', hB3, hA⟩
    have hv := added_val hA HO1.out HO2.out (by omega)
    have hlen : L'.length = xs.length + 1 := by rw [hA.len]; simp
    have hs := Sl.of_blk hB3 hA.ok 0 (xs.length + 1) (xs.length + 1) (by omega) (Nat.le_refl _) (by unfold maxLen; omega)
    rw [List.drop_zero, ← hlen, List.take_length, hlen] at hs
    have hb3 : Below w.heap.size w w3 := HBel2.out.trans (hO3.below (Nat.le_refl _))
    have HS := Lib.hid hs
    have HB3 := Lib.hid hb3
    have HV := Lib.hid hv
    have HLen := Lib.hid hlen
    clear hs hb3 hv hlen hA hB3 hO3
    go_wp2_with fail
    refine (trim_any L' _ _ HS.out (by rw [HLen.out]; omega)).mono ?_
    rintro e w4 ⟨v, rfl, hnat, rfl⟩
    have HN := Lib.hid hnat
    clear hnat
    go_wp2_with fail
    go_ret
    refine ⟨v, rfl, ?_, HB3.out⟩
    have := HN.out
    rw [HV.out, HE1.out, HE2.out] at this
    exact this

theorem times_step {xs ys L L' : List Nat} {k c : Nat} (hv : val L = val (xs.take k) * val ys) (hk : k < xs.length) (hL : L.length = xs.length + ys.length)
    (h : Added L L' k (xs.length + ys.length - k) (xs[k]?.getD 0 * val ys) c) (ok1 : Ok xs) (ok2 : Ok ys) : val L' = val (xs.take (k + 1)) * val ys := by
  have h1 := h.sum
  have e : val (xs.take (k + 1)) * val ys = val L + B ^ k * (xs[k]?.getD 0 * val ys) := by
    rw [val_take_succ xs k hk, Nat.add_mul, hv, Nat.mul_assoc]
  rw [← e] at h1
  have hlt : val (xs.take (k + 1)) * val ys < B ^ (xs.length + ys.length) := by
    have h2 := val_lt (ok1.take (k + 1))
    rw [List.length_take, Nat.min_eq_left (by omega)] at h2
    have h3 := val_lt ok2
    have h4 : val (xs.take (k + 1)) * val ys < B ^ (k + 1) * B ^ ys.length := Nat.mul_lt_mul'' h2 h3
    have h5 : B ^ (k + 1) * B ^ ys.length ≤ B ^ (xs.length + ys.length) := by
      rw [← Nat.pow_add]; exact Nat.pow_le_pow_right B_pos (by omega)
    omega
  rw [show k + (xs.length + ys.length - k) = xs.length + ys.length from by omega] at h1
  rcases Nat.eq_zero_or_pos c with h0 | h0
  · subst h0; simpa using h1
  · have : B ^ (xs.length + ys.length) * 1 ≤ B ^ (xs.length + ys.length) * c := Nat.mul_le_mul_left _ h0
    omega

set_option maxRecDepth 100000 in
theorem times_long (v1 v2 : Value) (m n k : Nat) (w : World) (h1 : IsNat w v1 m) (h2 : IsNat w v2 n) (hm : m < B ^ k) (hn : n < B ^ k) (hk : (k : Int) ≤ 1073741824) (o1 : ¬ m = 1) (o2 : ¬ n = 1) :
    Calls Tryz.prog 124 #[v1, v2] w (NatNew w (m * n)) := by
  have HI1 := Lib.hid (isOne_no v1 m w h1 o1)
  have HI2 := Lib.hid (isOne_no v2 n w h2 o2)
  clear o1 o2
  obtain ⟨xs, s1, t1, e1⟩ := h1
  obtain ⟨ys, s2, t2, e2⟩ := h2
  have lx := IsNat.len t1 e1 hm
  have ly := IsNat.len t2 e2 hn
  obtain ⟨⟨xa, xc, rfl, hc1, hc2, hr1⟩, ok1⟩ := s1
  obtain ⟨⟨ya, yc, rfl, hd1, hd2, hr2⟩, ok2⟩ := s2
  obtain ⟨i0, hi, hz0, hz1, hz2⟩ := info_parts info_u64
  unfold maxLen at hc2 hd2
  have HR1 := Lib.hid hr1
  have HR2 := Lib.hid hr2
  have HO1 := Lib.hid ok1
  have HO2 := Lib.hid ok2
  have HE1 := Lib.hid e1
  have HE2 := Lib.hid e2
  clear hr1 hr2 ok1 ok2 e1 e2 t1 t2 hm hn
  obtain ⟨N, hN⟩ : ∃ N, N = xs.length + ys.length := ⟨_, rfl⟩
  have HN := Lib.hid hN
  have hNmax : (N : Int) ≤ 2147483648 := by omega
  clear hN
  go_enter Tryz.func124, Tryz.ntmps124
  go_wp2_with fail
  refine HI1.out.mono ?_
  rintro e w1 ⟨rfl, rfl⟩
  go_wp2_with fail
  refine HI2.out.mono ?_
  rintro e w1 ⟨rfl, rfl⟩
  clear HI1 HI2
  go_wp2_with (at_make; refine wpList_make_full _ rfl _ _ 116 rfl w.heap.size 23 i0 (.int .u64 0) 1 Tryz.underlying116 hi hz0 hz1 _ _ _ _ N rfl rfl (by have := HN.out; omega) (by have := HN.out; omega) ?qb2 ?qb3 ?qb4 ?_)
  case qb2 => rw [hz2]; omega
  case qb3 => unfold maxLen; omega
  case qb4 => exact Nat.le_refl _
  intro w1 hown hgrow
  obtain ⟨hB1, hbel⟩ := made_blk hown hgrow
  clear hown hgrow
  have HB1 := Lib.hid hB1
  have HBel := Lib.hid hbel
  clear hB1 hbel
  go_wp2_with fail
  go_loopw [21] (fun i wr => ∃ k L, k ≤ xs.length ∧ i = .int .i64 (k : Int) ∧ Hid (Blk wr w.heap.size L ∧ L.length = N ∧ Ok L ∧ val L = val (xs.take k) * val ys) ∧ Hid (Below w.heap.size w wr)) (fun i _ => xs.length - (intOf i).toNat)
  case atStart => exact ⟨0, _, Nat.zero_le _, rfl, ⟨HB1.out, by simp, Ok.replicate _, by rw [val_replicate]; simp [val]⟩, HBel.out⟩
  case round =>
    obtain ⟨k, L, hk, rfl, hL, hBe⟩ := hrel
    by_cases hlt : k < xs.length
    · obtain ⟨xb, xo, rfl, hxrow⟩ := HR1.out (by omega)
      have hxb := hxrow.lt (by omega)
      have hxc : wr.cell? ⟨xb, xo + k, none⟩ = some (u (xs[k]?.getD 0)) := (hBe.out.cell (p := ⟨xb, xo + k, none⟩) hxb).trans (hxrow k hlt)
      have hxl : xs[k]?.getD 0 < B := HO1.out.get k
      generalize hxg : xs[k]?.getD 0 = x at *
      have HX := Lib.hid hxg
      clear hxg hxrow hi hz0 hz1 hz2
      have hkN : (k : Int) < (N : Int) := by have := HN.out; omega
      have hkN' : (k : Int) ≤ (N : Int) := by omega
      have hk0 : (0 : Int) ≤ (k : Int) := by omega
      have hNk : ¬ N = k := by omega
      go_wp2_with fail
      go_region_held3 (fun w' => w'.cell? ⟨xb, xo + k, none⟩ = some (u x)) (go_keep) ((go_at_call 149; refine (addMultiple_any w.heap.size k (N - k) _ yc L ys ya x wr.drew (show Blk wr.drew w.heap.size L from hL.out.1) (by have := hL.out.2.1; omega) (by have := HN.out; omega) (by omega) hxl hL.out.2.2.1 HO2.out (rows_ne HR2.out hBe.out.drew (Nat.le_refl _))).mono ?_; rintro e w' ⟨rfl, hO, c, L', hB', hA⟩; have hxc' := (hO.cell (p := ⟨xb, xo + k, none⟩) (Nat.ne_of_lt hxb)).trans hxc))
      have HB' := Lib.hid hB'
      have HA := Lib.hid hA
      have HO := Lib.hid hO
      clear hB' hA hO hxc' hNk
      go_wp2_with fail
      go_roundw
      case rel =>
        refine ⟨k + 1, L', by omega, by go_num, ⟨HB'.out, by rw [HA.out.len, hL.out.2.1], HA.out.ok, ?_⟩, hBe.out.trans (Below.trans ((Below.refl _ wr).drew) (HO.out.below (Nat.le_refl _)))⟩
        have hN := HN.out
        have hA2 := HA.out
        rw [← HX.out, hN] at hA2
        exact times_step hL.out.2.2.2 hlt (by rw [hL.out.2.1, hN]) hA2 HO1.out HO2.out
      case measure => simp [intOf]; omega
    · obtain rfl : k = xs.length := by omega
      obtain ⟨hb, hl, ho, hv⟩ := hL.out
      have hs := Sl.of_blk hb ho 0 N N (by omega) (Nat.le_refl _) (by unfold maxLen; omega)
      rw [List.drop_zero, ← hl, List.take_length, hl] at hs
      rw [List.take_length, HE1.out, HE2.out] at hv
      have HS := Lib.hid hs
      have HV := Lib.hid hv
      have HLen := Lib.hid hl
      clear hs hv hl hb ho
      go_wp2_with fail
      refine (trim_any L _ _ HS.out (by rw [HLen.out]; omega)).mono ?_
      rintro e w4 ⟨v, rfl, hnat, rfl⟩
      have HN2 := Lib.hid hnat
      clear hnat
      go_wp2_with fail
      go_ret
      refine ⟨v, rfl, ?_, hBe.out⟩
      have := HN2.out
      rw [HV.out] at this
      exact this

theorem times_any (v1 v2 : Value) (m n k : Nat) (w : World) (h1 : IsNat w v1 m) (h2 : IsNat w v2 n) (hm : m < B ^ k) (hn : n < B ^ k) (hk : (k : Int) ≤ 1073741824) :
    Calls Tryz.prog 124 #[v1, v2] w (NatNew w (m * n)) := by
  by_cases o1 : m = 1
  · have HI1 := Lib.hid (isOne_yes v1 m w h1 o1)
    have H2 := Lib.hid h2
    subst o1
    obtain ⟨xs, ⟨⟨xa, xc, rfl, _⟩, _⟩, _⟩ := h1
    obtain ⟨ys, ⟨⟨ya, yc, rfl, _⟩, _⟩, _⟩ := h2
    clear hm hn hk
    go_enter Tryz.func124, Tryz.ntmps124
    go_wp2_with fail
    refine HI1.out.mono ?_
    rintro e w1 ⟨rfl, rfl⟩
    go_wp2_with fail
    go_ret
    refine ⟨_, rfl, ?_, Below.refl _ _⟩
    rw [Nat.one_mul]
    exact H2.out
  · by_cases o2 : n = 1
    · have HI1 := Lib.hid (isOne_no v1 m w h1 o1)
      have HI2 := Lib.hid (isOne_yes v2 n w h2 o2)
      have H1 := Lib.hid h1
      subst o2
      obtain ⟨xs, ⟨⟨xa, xc, rfl, _⟩, _⟩, _⟩ := h1
      obtain ⟨ys, ⟨⟨ya, yc, rfl, _⟩, _⟩, _⟩ := h2
      clear hm hn hk o1
      go_enter Tryz.func124, Tryz.ntmps124
      go_wp2_with fail
      refine HI1.out.mono ?_
      rintro e w1 ⟨rfl, rfl⟩
      go_wp2_with fail
      refine HI2.out.mono ?_
      rintro e w1 ⟨rfl, rfl⟩
      go_wp2_with fail
      go_ret
      refine ⟨_, rfl, ?_, Below.refl _ _⟩
      rw [Nat.mul_one]
      exact H1.out
    · exact times_long v1 v2 m n k w h1 h2 hm hn hk o1 o2

/-- takeMultiple of nothing. -/
theorem takeMultiple_nil (ao ya : Option Addr) (c yc : Nat) (w : World) :
    Calls Tryz.prog 178 #[.slice ao 0 c, .slice ya 0 yc, .int .u64 1] w fun e w' => e = .returned (.int .u64 0) ∧ w = w' := by
  go_enter Tryz.func178, Tryz.ntmps178
  go_wp2_with fail
  refine wp_loop_rounds 1 ?_
  rw [rounds_succ]
  go_wp2_with fail
  refine wp_loop_rounds 1 ?_
  rw [rounds_succ]
  go_wp2_with fail
  go_ret
  exact ⟨rfl, rfl⟩

end Go.Proofs.YtojploidgagmgaaGreatDoor

/- natural.minus. -/
namespace Go.Proofs.YtojploidgagmgaaGreatDoor
open Go Go.RowKit Go.Proofs Lim

theorem no_borrow (P V X Y c : Nat) (h1 : V + Y = X + P * c) (hV : V < P) (h : Y ≤ X) : V = X - Y := by
  rcases Nat.eq_zero_or_pos c with h0 | h0
  · subst h0; omega
  · have h6 : P * 1 ≤ P * c := Nat.mul_le_mul_left _ h0
    omega

theorem taken_val {L L' : List Nat} {x c n : Nat} (h : Taken L L' 0 n x c) (hn : L.length = n) (hle : x ≤ val L) : val L' = val L - x := by
  have h1 := h.sum
  rw [Nat.zero_add, Nat.pow_zero, Nat.one_mul] at h1
  have h2 := val_lt h.ok
  rw [h.len, hn] at h2
  exact no_borrow _ _ _ _ _ h1 h2 hle

theorem rows_at {w : World} {a : Addr} {xs : List Nat} (h : 0 < xs.length → ∃ b off, some a = some ⟨b, off, none⟩ ∧ Row w b off xs) : ∀ j, j < xs.length → w.cell? (a.add j) = some (u (xs[j]?.getD 0)) := by
  intro j hj
  obtain ⟨b, off, ha, hr⟩ := h (by omega)
  injection ha with ha
  subst ha
  rw [Addr.add_lit]
  exact hr j hj

theorem rows_ne' {w : World} {xa : Option Addr} {xs : List Nat} (h : 0 < xs.length → ∃ b off, xa = some ⟨b, off, none⟩ ∧ Row w b off xs) {w1 : World} {N c : Nat} (hb : Below N w w1) (hN : w.heap.size ≤ N) (hc : w.heap.size ≤ c) :
    0 < xs.length → ∃ b off, xa = some ⟨b, off, none⟩ ∧ b ≠ c ∧ Row w1 b off xs := by
  intro hp
  obtain ⟨b, off, rfl, hr⟩ := h hp
  have := hr.lt hp
  exact ⟨b, off, rfl, by omega, hr.below hb (by omega)⟩

theorem minus_any (v1 v2 : Value) (m n k : Nat) (w : World) (h1 : IsNat w v1 m) (h2 : IsNat w v2 n) (hm : m < B ^ k) (hnm : n ≤ m) (hk : (k : Int) ≤ 1073741824) :
    Calls Tryz.prog 157 #[v1, v2] w (NatNew w (m - n)) := by
  obtain ⟨xs, s1, t1, e1⟩ := h1
  obtain ⟨ys, s2, t2, e2⟩ := h2
  have lx := IsNat.len t1 e1 hm
  have ly : ys.length ≤ xs.length := length_le_of_val_le t2 s1.ok (by omega)
  obtain ⟨⟨xa, xc, rfl, hc1, hc2, hr1⟩, ok1⟩ := s1
  obtain ⟨⟨ya, yc, rfl, hd1, hd2, hr2⟩, ok2⟩ := s2
  unfold maxLen at hc2 hd2
  rcases xa with _ | a
  · have hx0 : xs = [] := by
      rcases xs with _ | ⟨x, xs⟩
      · rfl
      · obtain ⟨b, off, h, _⟩ := hr1 (by simp)
        cases h
    subst hx0
    have hy0 : ys = [] := by simpa using ly
    subst hy0
    simp only [val] at e1 e2
    subst e1
    subst e2
    clear hr1 hr2 ok1 ok2 t1 t2 hm hnm lx ly
    go_enter Tryz.func157, Tryz.ntmps157
    go_wp2_with fail
    refine (clone_nil _ _ _).mono ?_
    rintro e w' ⟨rfl, rfl⟩
    go_wp2_with fail
    refine (takeMultiple_nil none ya 0 yc w).mono ?_
    rintro e w' ⟨rfl, rfl⟩
    go_wp2_with fail
    refine (trim_any [] _ _ (Sl.nil w) (by simp)).mono ?_
    rintro e w' ⟨v, rfl, hnat, rfl⟩
    have HN := Lib.hid hnat
    clear hnat
    go_wp2_with fail
    go_ret
    exact ⟨v, rfl, HN.out, Below.refl _ _⟩
  · have HR1 := Lib.hid (rows_at hr1)
    have HR2 := Lib.hid hr2
    have HO1 := Lib.hid ok1
    have HO2 := Lib.hid ok2
    have HE1 := Lib.hid e1
    have HE2 := Lib.hid e2
    clear hr1 hr2 ok1 ok2 e1 e2 t1 t2 hm
    go_enter Tryz.func157, Tryz.ntmps157
    go_wp2_with fail
    refine (clone_any a xs xc w (by omega) HR1.out).mono ?_
    rintro e w1 ⟨b, cap, rfl, hb, hB1, hcap1, hcap2, hbel⟩
    have HB1 := Lib.hid hB1
    have HBel := Lib.hid hbel
    clear hB1 hbel
    go_wp2_with fail
    refine (takeMultiple_one b 0 xs.length cap yc xs ys ya w1 HB1.out (by omega) ly (by omega) HO1.out HO2.out (rows_ne' HR2.out HBel.out (Nat.le_refl _) hb)).mono ?_
    rintro e w3 ⟨c, L', hc, rfl, hO3, hB3, hA⟩
    have hv := taken_val hA rfl (by rw [HE1.out, HE2.out]; exact hnm)
    have hlen : L'.length = xs.length := hA.len
    have hs := Sl.of_blk hB3 hA.ok 0 xs.length cap (by omega) hcap1 hcap2
    rw [List.drop_zero, ← hlen, List.take_length, hlen] at hs
    have hb3 : Below w.heap.size w w3 := HBel.out.trans (hO3.below hb)
    rw [HE1.out, HE2.out] at hv
    have HS := Lib.hid hs
    have HB3 := Lib.hid hb3
    have HV := Lib.hid hv
    have HLen := Lib.hid hlen
    clear hs hb3 hv hlen hA hB3 hO3
    go_wp2_with fail
    refine (trim_any L' _ _ HS.out (by rw [HLen.out]; omega)).mono ?_
    rintro e w4 ⟨v, rfl, hnat, rfl⟩
    have HN := Lib.hid hnat
    clear hnat
    go_wp2_with fail
    go_ret
    refine ⟨v, rfl, ?_, HB3.out⟩
    have := HN.out
    rw [HV.out] at this
    exact this

end Go.Proofs.YtojploidgagmgaaGreatDoor

/- difference: f x - g y. -/
namespace Go.Proofs.YtojploidgagmgaaGreatDoor
open Go Go.RowKit Go.Proofs Lim

theorem diff_val (P f m g n V1 V2 c c2 : Nat) (h1 : V1 + P * c = f * m) (h2 : V2 + g * n = V1 + P * c2) (hle : g * n ≤ f * m) (hD : f * m - g * n < P) (hV : V2 < P) : V2 = f * m - g * n := by
  have h3 : V2 + P * c = (f * m - g * n) + P * c2 := by omega
  exact (val_eq_of_lt h3 hV hD).1

theorem difference_any (v1 v2 : Value) (f g m n k : Nat) (w : World) (h1 : IsNat w v1 m) (h2 : IsNat w v2 n) (hf : f < B) (hg : g < B) (hle : g * n ≤ f * m)
    (hD : f * m - g * n ≤ m ∨ f * m - g * n ≤ n) (hm : m < B ^ k) (hn : n < B ^ k) (hk : (k : Int) ≤ 1073741824) :
    Calls Tryz.prog 176 #[u f, v1, u g, v2] w (NatNew w (f * m - g * n)) := by
  obtain ⟨xs, s1, t1, rfl⟩ := h1
  obtain ⟨ys, s2, t2, rfl⟩ := h2
  have lx := IsNat.len t1 rfl hm
  have ly := IsNat.len t2 rfl hn
  obtain ⟨⟨xa, xc, rfl, hc1, hc2, hr1⟩, ok1⟩ := s1
  obtain ⟨⟨ya, yc, rfl, hd1, hd2, hr2⟩, ok2⟩ := s2
  unfold maxLen at hc2 hd2
  obtain ⟨N, hN⟩ : ∃ N, N = max xs.length ys.length := ⟨_, rfl⟩
  have hNx : xs.length ≤ N := by omega
  have hNy : ys.length ≤ N := by omega
  have hDN : f * val xs - g * val ys < B ^ N := by
    have h1 := val_lt ok1
    have h2 := val_lt ok2
    have h3 : B ^ xs.length ≤ B ^ N := Nat.pow_le_pow_right B_pos hNx
    have h4 : B ^ ys.length ≤ B ^ N := Nat.pow_le_pow_right B_pos hNy
    omega
  have hNmax : (N : Int) ≤ 1073741824 := by omega
  have HN := Lib.hid hN
  have HDN := Lib.hid hDN
  have HLE := Lib.hid hle
  have HR1 := Lib.hid hr1
  have HR2 := Lib.hid hr2
  have HO1 := Lib.hid ok1
  have HO2 := Lib.hid ok2
  clear hr1 hr2 ok1 ok2 t1 t2 hm hn hN hD hDN hle
  obtain ⟨i0, hi, hz0, hz1, hz2⟩ := info_parts info_u64
  go_enter Tryz.func176, Tryz.ntmps176
  go_wp2_with (at_make; refine wpList_make_full _ rfl _ _ 116 rfl w.heap.size 23 i0 (.int .u64 0) 1 Tryz.underlying116 hi hz0 hz1 _ _ _ _ N rfl rfl (by have := HN.out; omega) (by have := HN.out; omega) ?qb2 ?qb3 ?qb4 ?_)
  case qb2 => rw [hz2]; omega
  case qb3 => unfold maxLen; omega
  case qb4 => exact Nat.le_refl _
  intro w1 hown hgrow
  obtain ⟨hB1, hbel⟩ := made_blk hown hgrow
  clear hown hgrow hi hz0 hz1 hz2
  have HB1 := Lib.hid hB1
  have HBel := Lib.hid hbel
  clear hB1 hbel
  go_wp2_with fail
  refine (addMultiple_any w.heap.size 0 N _ _ (List.replicate N 0) xs xa f w1 HB1.out (by simp) hNx (by omega) hf (Ok.replicate _) HO1.out (rows_ne HR1.out HBel.out (Nat.le_refl _))).mono ?_
  rintro e w2 ⟨rfl, hO2, c, L1, hB2, hA1⟩
  have HB2 := Lib.hid hB2
  have HO2' := Lib.hid hO2
  have HA1 := Lib.hid hA1
  have HBel2 := Lib.hid (HBel.out.trans (hO2.below (Nat.le_refl _)))
  have hl1 : L1.length = N := by rw [hA1.len]; simp
  have HL1 := Lib.hid hl1
  clear hB2 hO2 hA1 hl1
  go_wp2_with fail
  refine (takeMultiple_any w.heap.size 0 N _ _ L1 ys ya g w2 HB2.out (by have := HL1.out; omega) hNy (by omega) hg HA1.out.ok HO2.out (rows_ne HR2.out HBel2.out (Nat.le_refl _))).mono ?_
  rintro e w3 ⟨c2, L2, hc2', rfl, hO3, hB3, hA2⟩
  have hl2 : L2.length = N := by rw [hA2.len, HL1.out]
  have hv : val L2 = f * val xs - g * val ys := by
    have s1 := HA1.out.sum
    have s2 := hA2.sum
    rw [val_replicate, Nat.pow_zero, Nat.one_mul, Nat.zero_add, Nat.zero_add] at s1
    rw [Nat.pow_zero, Nat.one_mul, Nat.zero_add] at s2
    have hV := val_lt hA2.ok
    rw [hl2] at hV
    exact diff_val _ _ _ _ _ _ _ _ _ s1 s2 HLE.out HDN.out hV
  have hs := Sl.of_blk hB3 hA2.ok 0 N N (by omega) (Nat.le_refl _) (by unfold maxLen; omega)
  rw [List.drop_zero, ← hl2, List.take_length, hl2] at hs
  have HS := Lib.hid hs
  have HV := Lib.hid hv
  have HL2 := Lib.hid hl2
  have HB3 := Lib.hid (HBel2.out.trans (hO3.below (Nat.le_refl _)))
  clear hs hv hl2 hB3 hO3 hA2
  go_wp2_with fail
  refine (trim_any L2 _ _ HS.out (by rw [HL2.out]; omega)).mono ?_
  rintro e w4 ⟨v, rfl, hnat, rfl⟩
  rw [HV.out] at hnat
  have HNat := Lib.hid hnat
  clear hnat
  go_wp2_with fail
  go_ret
  exact ⟨v, rfl, HNat.out, HB3.out⟩

end Go.Proofs.YtojploidgagmgaaGreatDoor

namespace Go.Proofs.YtojploidgagmgaaGreatDoor.Lim

/-- What some steps of Euclid's algorithm on two numbers have come to. -/
structure Steps (x0 y0 xi yi a b c d : Nat) (odd : Bool) : Prop where
  lx : if odd then xi + a * x0 = b * y0 else xi + b * y0 = a * x0
  ly : if odd then yi + d * y0 = c * x0 else yi + c * x0 = d * y0
  hx : x0 = d * xi + b * yi
  hy : y0 = c * xi + a * yi
  det : if odd then b * c = a * d + 1 else a * d = b * c + 1
  cd : c ≤ d
  d1 : 1 ≤ d
  st : (a = 1 ∧ b = 0 ∧ c = 0 ∧ d = 1 ∧ yi ≤ xi) ∨ (a ≤ b ∧ 1 ≤ b ∧ 1 ≤ c ∧ d ≤ yi ∧ b + d ≤ xi - yi ∧ yi ≤ xi)

theorem Steps.start (x y : Nat) (h : y ≤ x) : Steps x y x y 1 0 0 1 false :=
  ⟨by simp, by simp, by simp, by simp, by simp, by omega, by omega, .inl ⟨rfl, rfl, rfl, rfl, h⟩⟩

theorem Steps.bd {x0 y0 xi yi a b c d : Nat} {odd : Bool} (h : Steps x0 y0 xi yi a b c d odd) (hy : 0 < yi) : b + xi / yi * d ≤ x0 ∧ a + xi / yi * c ≤ y0 := by
  have hq : xi / yi * yi ≤ xi := Nat.div_mul_le_self xi yi
  have h1 : d * (xi / yi * yi) ≤ d * xi := Nat.mul_le_mul_left _ hq
  have h2 : c * (xi / yi * yi) ≤ c * xi := Nat.mul_le_mul_left _ hq
  have e1 : (b + xi / yi * d) * yi = d * (xi / yi * yi) + b * yi := by grind
  have e2 : (a + xi / yi * c) * yi = c * (xi / yi * yi) + a * yi := by grind
  have h3 := h.hx
  have h4 := h.hy
  have h5 : (b + xi / yi * d) * 1 ≤ (b + xi / yi * d) * yi := Nat.mul_le_mul_left _ hy
  have h6 : (a + xi / yi * c) * 1 ≤ (a + xi / yi * c) * yi := Nat.mul_le_mul_left _ hy
  omega

theorem Steps.next {x0 y0 xi yi a b c d : Nat} {odd : Bool} (h : Steps x0 y0 xi yi a b c d odd) (hy : 0 < yi)
    (c1 : b + xi / yi * d ≤ xi % yi) (c2 : d + (b + xi / yi * d) ≤ yi - xi % yi) :
    Steps x0 y0 yi (xi % yi) c d (a + xi / yi * c) (b + xi / yi * d) (!odd) := by
  have hle : yi ≤ xi := by rcases h.st with h | h <;> omega
  have hq : 1 ≤ xi / yi := (Nat.le_div_iff_mul_le hy).2 (by omega)
  have hdm : xi = yi * (xi / yi) + xi % yi := (Nat.div_add_mod xi yi).symm
  have hlt : xi % yi < yi := Nat.mod_lt _ hy
  have hd1 := h.d1
  generalize hqq : xi / yi = q at *
  generalize hrr : xi % yi = r at *
  have hqd : 1 * d ≤ q * d := Nat.mul_le_mul_right _ hq
  have hqc : q * c ≤ q * d := Nat.mul_le_mul_left _ h.cd
  refine ⟨?_, ?_, ?_, ?_, ?_, ?_, by omega, .inr ⟨h.cd, hd1, ?_, c1, c2, by omega⟩⟩
  · have := h.ly
    cases odd <;> simpa using this
  · have h1 := h.ly
    have h2 := h.lx
    cases odd
    · simp only [Bool.not_false, if_true, Bool.false_eq_true, if_false] at h1 h2 ⊢
      subst hdm
      grind
    · simp only [Bool.not_true, if_true, Bool.false_eq_true, if_false] at h1 h2 ⊢
      subst hdm
      grind
  · have := h.hx; subst hdm; grind
  · have := h.hy; subst hdm; grind
  · have := h.det
    cases odd
    · simp only [Bool.not_false, if_true, Bool.false_eq_true, if_false] at this ⊢
      grind
    · simp only [Bool.not_true, if_true, Bool.false_eq_true, if_false] at this ⊢
      grind
  · rcases h.st with ⟨rfl, rfl, rfl, rfl, _⟩ | ⟨ha, _⟩
    · omega
    · omega
  · rcases h.st with ⟨rfl, rfl, rfl, rfl, _⟩ | ⟨_, _, hc, _⟩
    · omega
    · have : 1 * c ≤ q * c := Nat.mul_le_mul_right _ hq
      omega

/-- The steps that the leading bits tell are those of the whole numbers. -/
theorem Steps.even {x0 y0 xi yi a b c d K x' y' : Nat} (h : Steps x0 y0 xi yi a b c d false) (hb : b ≠ 0) (hx' : x' < K) (hy' : y' < K) :
    ∃ X Y, X + b * (y0 * K + y') = a * (x0 * K + x') ∧ Y + c * (x0 * K + x') = d * (y0 * K + y') ∧ Y < X ∧
      x0 * K + x' = d * X + b * Y ∧ y0 * K + y' = c * X + a * Y ∧ 1 ≤ c ∧ 1 ≤ d := by
  have h1 := h.lx
  have h2 := h.ly
  have h3 := h.det
  have hcd := h.cd
  have hd1 := h.d1
  simp only [Bool.false_eq_true, if_false] at h1 h2 h3
  rcases h.st with ⟨_, rfl, _⟩ | ⟨hab, hb1, hc1, hdy, hbd, hyx⟩
  · exact absurd rfl hb
  have e1 : a * (x0 * K + x') = xi * K + b * y0 * K + a * x' := by rw [Nat.mul_add, ← Nat.mul_assoc, ← h1, Nat.add_mul]
  have e2 : b * (y0 * K + y') = b * y0 * K + b * y' := by rw [Nat.mul_add, ← Nat.mul_assoc]
  have e3 : d * (y0 * K + y') = yi * K + c * x0 * K + d * y' := by rw [Nat.mul_add, ← Nat.mul_assoc, ← h2, Nat.add_mul]
  have e4 : c * (x0 * K + x') = c * x0 * K + c * x' := by rw [Nat.mul_add, ← Nat.mul_assoc]
  have i1 : b * y' ≤ b * K := Nat.mul_le_mul_left _ (by omega)
  have i2 : c * x' ≤ c * K := Nat.mul_le_mul_left _ (by omega)
  have i3 : b * K ≤ xi * K := Nat.mul_le_mul_right _ (by omega)
  have i4 : c * K ≤ yi * K := Nat.mul_le_mul_right _ (by omega)
  have i5 : (yi + b + d) * K ≤ xi * K := Nat.mul_le_mul_right _ (by omega)
  have i6 : b * (y' + 1) ≤ b * K := Nat.mul_le_mul_left _ (by omega)
  have i7 : d * (y' + 1) ≤ d * K := Nat.mul_le_mul_left _ (by omega)
  rw [Nat.add_mul, Nat.add_mul] at i5
  rw [Nat.mul_add] at i6 i7
  have hX : a * (x0 * K + x') - b * (y0 * K + y') + b * (y0 * K + y') = a * (x0 * K + x') := by omega
  have hY : d * (y0 * K + y') - c * (x0 * K + x') + c * (x0 * K + x') = d * (y0 * K + y') := by omega
  refine ⟨_, _, hX, hY, by omega, ?_, ?_, hc1, hd1⟩
  · generalize x0 * K + x' = x at *
    generalize y0 * K + y' = y at *
    generalize a * x - b * y = X at *
    generalize d * y - c * x = Y at *
    have g1 : d * X + d * (b * y) = d * (a * x) := by rw [← Nat.mul_add, hX]
    have g2 : b * Y + b * (c * x) = b * (d * y) := by rw [← Nat.mul_add, hY]
    have g3 : d * (a * x) = b * (c * x) + x := by
      have : a * d * x = (b * c + 1) * x := by rw [h3]
      grind
    have g4 : d * (b * y) = b * (d * y) := by grind
    omega
  · generalize x0 * K + x' = x at *
    generalize y0 * K + y' = y at *
    generalize a * x - b * y = X at *
    generalize d * y - c * x = Y at *
    have g1 : c * X + c * (b * y) = c * (a * x) := by rw [← Nat.mul_add, hX]
    have g2 : a * Y + a * (c * x) = a * (d * y) := by rw [← Nat.mul_add, hY]
    have g3 : a * (d * y) = c * (b * y) + y := by
      have : a * d * y = (b * c + 1) * y := by rw [h3]
      grind
    have g4 : c * (a * x) = a * (c * x) := by grind
    omega

theorem Steps.odd {x0 y0 xi yi a b c d K x' y' : Nat} (h : Steps x0 y0 xi yi a b c d true) (hx' : x' < K) (hy' : y' < K) :
    ∃ X Y, X + a * (x0 * K + x') = b * (y0 * K + y') ∧ Y + d * (y0 * K + y') = c * (x0 * K + x') ∧ Y < X ∧
      x0 * K + x' = d * X + b * Y ∧ y0 * K + y' = c * X + a * Y ∧ 1 ≤ c ∧ 1 ≤ d := by
  have h1 := h.lx
  have h2 := h.ly
  have h3 := h.det
  have hcd := h.cd
  have hd1 := h.d1
  simp only [if_true] at h1 h2 h3
  rcases h.st with ⟨rfl, rfl, rfl, rfl, _⟩ | ⟨hab, hb1, hc1, hdy, hbd, hyx⟩
  · omega
  have e1 : b * (y0 * K + y') = xi * K + a * x0 * K + b * y' := by rw [Nat.mul_add, ← Nat.mul_assoc, ← h1, Nat.add_mul]
  have e2 : a * (x0 * K + x') = a * x0 * K + a * x' := by rw [Nat.mul_add, ← Nat.mul_assoc]
  have e3 : c * (x0 * K + x') = yi * K + d * y0 * K + c * x' := by rw [Nat.mul_add, ← Nat.mul_assoc, ← h2, Nat.add_mul]
  have e4 : d * (y0 * K + y') = d * y0 * K + d * y' := by rw [Nat.mul_add, ← Nat.mul_assoc]
  have i1 : a * x' ≤ a * K := Nat.mul_le_mul_left _ (by omega)
  have i2 : d * y' ≤ d * K := Nat.mul_le_mul_left _ (by omega)
  have i3 : a * K ≤ xi * K := Nat.mul_le_mul_right _ (by omega)
  have i4 : d * K ≤ yi * K := Nat.mul_le_mul_right _ (by omega)
  have i5 : (yi + b + d) * K ≤ xi * K := Nat.mul_le_mul_right _ (by omega)
  have i6 : a * K ≤ b * K := Nat.mul_le_mul_right _ hab
  have i7 : c * (x' + 1) ≤ c * K := Nat.mul_le_mul_left _ (by omega)
  have i8 : c * K ≤ d * K := Nat.mul_le_mul_right _ hcd
  rw [Nat.add_mul, Nat.add_mul] at i5
  rw [Nat.mul_add] at i7
  have hX : b * (y0 * K + y') - a * (x0 * K + x') + a * (x0 * K + x') = b * (y0 * K + y') := by omega
  have hY : c * (x0 * K + x') - d * (y0 * K + y') + d * (y0 * K + y') = c * (x0 * K + x') := by omega
  refine ⟨_, _, hX, hY, by omega, ?_, ?_, hc1, hd1⟩
  · generalize x0 * K + x' = x at *
    generalize y0 * K + y' = y at *
    generalize b * y - a * x = X at *
    generalize c * x - d * y = Y at *
    have g1 : d * X + d * (a * x) = d * (b * y) := by rw [← Nat.mul_add, hX]
    have g2 : b * Y + b * (d * y) = b * (c * x) := by rw [← Nat.mul_add, hY]
    have g3 : b * (c * x) = d * (a * x) + x := by
      have : b * c * x = (a * d + 1) * x := by rw [h3]
      grind
    have g4 : d * (b * y) = b * (d * y) := by grind
    omega
  · generalize x0 * K + x' = x at *
    generalize y0 * K + y' = y at *
    generalize b * y - a * x = X at *
    generalize c * x - d * y = Y at *
    have g1 : c * X + c * (a * x) = c * (b * y) := by rw [← Nat.mul_add, hX]
    have g2 : a * Y + a * (d * y) = a * (c * x) := by rw [← Nat.mul_add, hY]
    have g3 : c * (b * y) = a * (d * y) + y := by
      have : b * c * y = (a * d + 1) * y := by rw [h3]
      grind
    have g4 : c * (a * x) = a * (c * x) := by grind
    omega

theorem gcd_of_lin {x y X Y a b c d : Nat} (hx : x = d * X + b * Y) (hy : y = c * X + a * Y)
    (h : (X + b * y = a * x ∧ Y + c * x = d * y) ∨ (X + a * x = b * y ∧ Y + d * y = c * x)) : Nat.gcd X Y = Nat.gcd x y := by
  have dX : Nat.gcd x y ∣ X := by
    rcases h with ⟨h, _⟩ | ⟨h, _⟩
    · exact (Nat.dvd_add_left (Nat.dvd_mul_left_of_dvd (Nat.gcd_dvd_right x y) b)).1 (h ▸ Nat.dvd_mul_left_of_dvd (Nat.gcd_dvd_left x y) a)
    · exact (Nat.dvd_add_left (Nat.dvd_mul_left_of_dvd (Nat.gcd_dvd_left x y) a)).1 (h ▸ Nat.dvd_mul_left_of_dvd (Nat.gcd_dvd_right x y) b)
  have dY : Nat.gcd x y ∣ Y := by
    rcases h with ⟨_, h⟩ | ⟨_, h⟩
    · exact (Nat.dvd_add_left (Nat.dvd_mul_left_of_dvd (Nat.gcd_dvd_left x y) c)).1 (h ▸ Nat.dvd_mul_left_of_dvd (Nat.gcd_dvd_right x y) d)
    · exact (Nat.dvd_add_left (Nat.dvd_mul_left_of_dvd (Nat.gcd_dvd_right x y) d)).1 (h ▸ Nat.dvd_mul_left_of_dvd (Nat.gcd_dvd_left x y) c)
  refine Nat.dvd_antisymm ?_ (Nat.dvd_gcd dX dY)
  refine Nat.dvd_gcd ?_ ?_
  · rw [hx]; exact Nat.dvd_add (Nat.dvd_mul_left_of_dvd (Nat.gcd_dvd_left X Y) d) (Nat.dvd_mul_left_of_dvd (Nat.gcd_dvd_right X Y) b)
  · rw [hy]; exact Nat.dvd_add (Nat.dvd_mul_left_of_dvd (Nat.gcd_dvd_left X Y) c) (Nat.dvd_mul_left_of_dvd (Nat.gcd_dvd_right X Y) a)

end Go.Proofs.YtojploidgagmgaaGreatDoor.Lim

/- foresee: steps of Euclid's algorithm that the leading bits tell. -/
namespace Go.Proofs.YtojploidgagmgaaGreatDoor
open Go Go.RowKit Go.Proofs Lim

/-- Where the steps lie. -/
def StepsAt (w : World) (k a b c d : Nat) (odd : Bool) : Prop := w.heap[k]? = some (.cells #[u a, u b, u c, u d, .bool odd] 196 (0, 0))

theorem StepsAt.cells {w : World} {k a b c d : Nat} {odd : Bool} (h : StepsAt w k a b c d odd) :
    (w.cell? ⟨k, 0, none⟩ = some (u a) ∧ w.cell? ⟨k, 1, none⟩ = some (u b) ∧ w.cell? ⟨k, 2, none⟩ = some (u c) ∧ w.cell? ⟨k, 3, none⟩ = some (u d) ∧ w.cell? ⟨k, 4, none⟩ = some (.bool odd)) ∧
      ∀ i, w.frozen? ⟨k, i, none⟩ = false := by
  unfold StepsAt at h
  refine ⟨by simp [World.cell?, h], fun i => by simp [World.frozen?, h]⟩

theorem StepsAt.store {w : World} {k a b c d a' b' c' d' : Nat} {odd odd' : Bool} (h : StepsAt w k a b c d odd) :
    StepsAt (((((w.setCell ⟨k, 0, none⟩ (u a')).setCell ⟨k, 1, none⟩ (u b')).setCell ⟨k, 2, none⟩ (u c')).setCell ⟨k, 3, none⟩ (u d')).setCell ⟨k, 4, none⟩ (.bool odd')) k a' b' c' d' odd' := by
  unfold StepsAt at h ⊢
  simp [World.setCell, Array.getElem?_modify, h]

theorem steps_sum_le {x0 y0 xi yi a b c d : Nat} {odd : Bool} (h : Lim.Steps x0 y0 xi yi a b c d odd) (hy : 0 < yi) (hr : 0 < xi % yi) : d + (b + xi / yi * d) ≤ x0 := by
  have hx := h.hx
  have hdm : xi = yi * (xi / yi) + xi % yi := (Nat.div_add_mod xi yi).symm
  generalize xi / yi = q at *
  generalize xi % yi = r at *
  rw [hdm] at hx
  have e : d * (yi * q + r) + b * yi = (b + q * d) * yi + d * r := by grind
  rw [e] at hx
  have h1 : (b + q * d) * 1 ≤ (b + q * d) * yi := Nat.mul_le_mul_left _ hy
  have h2 : d * 1 ≤ d * r := Nat.mul_le_mul_left _ hr
  omega

/-- What foresee leaves. -/
def ForeseePost (w : World) (x y : Nat) (e : Ending) (w' : World) : Prop :=
  ∃ a b c d X Y odd, e = .returned (.agg #[u a, u b, u c, u d, .bool odd]) ∧ Lim.Steps x y X Y a b c d odd ∧ a < B ∧ b < B ∧ c < B ∧ d < B ∧ Below w.heap.size w w'

theorem foresee_any (x y : Nat) (hx : x < B) (hy : y < B) (hle : y ≤ x) (w : World) : Calls Tryz.prog 174 #[u x, u y] w (ForeseePost w x y) := by
  go_enter Tryz.func174, Tryz.ntmps174
  go_wp2_with fail
  go_loopw [0, 1] (fun s0 s1 wr => ∃ X Y a b c d odd, s0 = u X ∧ s1 = u Y ∧ Hid (StepsAt wr w.heap.size 0 0 0 0 false) ∧ Hid (StepsAt wr (w.heap.size + 1) a b c d odd) ∧
      Hid (Lim.Steps x y X Y a b c d odd ∧ a < B ∧ b < B ∧ c < B ∧ d < B ∧ X < B ∧ Y < B) ∧ Hid (Below w.heap.size w wr)) (fun _ s1 _ => (intOf s1).toNat)
  case atStart =>
    refine ⟨x, y, 1, 0, 0, 1, false, rfl, rfl, ?_, ?_, ⟨Lim.Steps.start x y hle, by decide, by decide, by decide, by decide, hx, hy⟩, ((Below.refl _ w).alloc (Nat.le_refl _) _).alloc (by simp) _⟩
    · show _ = _
      rw [Below.heap_alloc _ _ _ (by simp)]
      exact heap_alloc_new w _
    · show _ = _
      have : w.heap.size + 1 = (w.alloc (Obj.cells #[Value.int .u64 0, Value.int .u64 0, Value.int .u64 0, Value.int .u64 0, Value.bool false] 196)).heap.size := by simp
      rw [this, heap_alloc_new]
      rfl
  case round =>
    obtain ⟨X, Y, a, b, c, d, odd, rfl, rfl, hR, hS, hI, hBe⟩ := hrel
    obtain ⟨⟨q0, q1, q2, q3, q4⟩, qf⟩ := hS.out.cells
    obtain ⟨⟨r0, r1, r2, r3, r4⟩, rf⟩ := hR.out.cells
    have p0 := qf 0
    have p1 := qf 1
    have p2 := qf 2
    have p3 := qf 3
    have p4 := qf 4
    have o0 := rf 0
    have o1 := rf 1
    have o2 := rf 2
    have o3 := rf 3
    have o4 := rf 4
    clear qf rf
    by_cases hY : Y = 0
    · have hb : (((Y : Nat) : Int) != 0) = false := by subst hY; rfl
      clear hY
      go_wp2_with fail
      refine bodyPost_ret (v := .agg #[u a, u b, u c, u d, .bool odd]) (by simp [results, Tryz.results174, go_sem, r0, r1, r2, r3, r4]) rfl ?_
      refine ⟨a, b, c, d, X, Y, odd, rfl, hI.out.1, hI.out.2.1, hI.out.2.2.1, hI.out.2.2.2.1, hI.out.2.2.2.2.1, ?_⟩
      exact hBe.out.trans ((((((Only.refl w.heap.size wr).set 0 _).set 1 _).set 2 _).set 3 _).set 4 _ |>.below (Nat.le_refl _))
    · have hb : (((Y : Nat) : Int) != 0) = true := by rw [bne_iff_ne]; omega
      have hY0 : 0 < Y := by omega
      have hb1 := hI.out.1.bd hY0
      have hXB : X < B := hI.out.2.2.2.2.2.1
      have hYB : Y < B := hI.out.2.2.2.2.2.2
      have haB := hI.out.2.1
      have hbB := hI.out.2.2.1
      have hcB := hI.out.2.2.2.1
      have hdB := hI.out.2.2.2.2.1
      have hrY : X % Y < Y := Nat.mod_lt _ hY0
      have hnext := fun c1 c2 => hI.out.1.next hY0 c1 c2
      have hsum := fun hr => steps_sum_le hI.out.1 hY0 hr
      have hd1 := hI.out.1.d1
      have k1 : ((X : Nat) : Int) / ((Y : Nat) : Int) = ((X / Y : Nat) : Int) := by rw [Int.natCast_ediv]
      have k2 : ((X : Nat) : Int) % ((Y : Nat) : Int) = ((X % Y : Nat) : Int) := by rw [Int.natCast_emod]
      have hqle : X / Y ≤ X := Nat.div_le_self _ _
      have hqpos : X / Y * Y ≤ X := Nat.div_mul_le_self _ _
      generalize X / Y = q at *
      generalize X % Y = r at *
      obtain ⟨qc, hqc⟩ : ∃ qc, qc = q * c := ⟨_, rfl⟩
      obtain ⟨qd, hqd⟩ : ∃ qd, qd = q * d := ⟨_, rfl⟩
      rw [← hqc, ← hqd] at hb1
      have k0 : IntKind.u64.wrap ((q : Nat) : Int) = (q : Int) := wrap_nat (by omega)
      have k3 : IntKind.u64.wrap ((q : Int) * (c : Int)) = (qc : Int) := by rw [hqc, ← Int.natCast_mul, wrap_nat (by omega)]
      have k5 : IntKind.u64.wrap ((q : Int) * (d : Int)) = (qd : Int) := by rw [hqd, ← Int.natCast_mul, wrap_nat (by omega)]
      obtain ⟨c', hc'⟩ : ∃ c', c' = a + qc := ⟨_, rfl⟩
      obtain ⟨d', hd'⟩ : ∃ d', d' = b + qd := ⟨_, rfl⟩
      have k4 : IntKind.u64.wrap ((a : Int) + (qc : Int)) = (c' : Int) := by rw [wrap_add (by omega), hc']
      have k6 : IntKind.u64.wrap ((b : Int) + (qd : Int)) = (d' : Int) := by rw [wrap_add (by omega), hd']
      have hc'B : c' < B := by omega
      have hd'B : d' < B := by omega
      rw [← hqd] at hsum hnext
      rw [← hqc] at hnext
      rw [← hd'] at hsum hnext
      rw [← hc'] at hnext
      have HNx := Lib.hid hnext
      have HSm := Lib.hid hsum
      clear hnext hsum hqc hqd hb1 hqle hqpos
      by_cases hlt : r < d'
      · clear hc' hd'
        go_wp2_with fail
        go_quiet (fail)
        go_wp2_with fail
        go_quiet (fail)
        go_wp2_with fail
        refine bodyPost_ret (v := .agg #[u a, u b, u c, u d, .bool odd]) (by simp [results, Tryz.results174, go_sem, r0, r1, r2, r3, r4]) rfl ?_
        refine ⟨a, b, c, d, X, Y, odd, rfl, hI.out.1, hI.out.2.1, hI.out.2.2.1, hI.out.2.2.2.1, hI.out.2.2.2.2.1, ?_⟩
        exact (hBe.out.trans (bdrewN (Below.refl _ _))).trans ((((((Only.refl w.heap.size _).set 0 _).set 1 _).set 2 _).set 3 _).set 4 _ |>.below (Nat.le_refl _))
      · obtain ⟨dd, hdd⟩ : ∃ dd, dd = d + d' := ⟨_, rfl⟩
        obtain ⟨yr, hyr⟩ : ∃ yr, yr = Y - r := ⟨_, rfl⟩
        have hd'1 : 1 ≤ d' ∨ d' = 0 := by omega
        have hddB : dd < B := by
          rcases Nat.eq_zero_or_pos r with h0 | h0
          · have : d' = 0 := by omega
            omega
          · have := HSm.out h0
            omega
        have k7 : IntKind.u64.wrap ((Y : Int) - (r : Int)) = (yr : Int) := by rw [wrap_sub hYB (by omega), hyr]
        have k8 : IntKind.u64.wrap ((d : Int) + (d' : Int)) = (dd : Int) := by rw [wrap_add (by omega), hdd]
        have HDD := Lib.hid hdd
        have HYR := Lib.hid hyr
        clear hdd hyr hc' hd' hd'1
        by_cases hlt2 : yr < dd
        · go_wp2_with fail
          go_quiet (fail)
          go_wp2_with fail
          go_quiet (fail)
          go_wp2_with fail
          refine bodyPost_ret (v := .agg #[u a, u b, u c, u d, .bool odd]) (by simp [results, Tryz.results174, go_sem, r0, r1, r2, r3, r4]) rfl ?_
          refine ⟨a, b, c, d, X, Y, odd, rfl, hI.out.1, hI.out.2.1, hI.out.2.2.1, hI.out.2.2.2.1, hI.out.2.2.2.2.1, ?_⟩
          exact (hBe.out.trans (bdrewN (Below.refl _ _))).trans ((((((Only.refl w.heap.size _).set 0 _).set 1 _).set 2 _).set 3 _).set 4 _ |>.below (Nat.le_refl _))
        · go_wp2_with fail
          go_quiet (fail)
          go_wp2_with fail
          go_quiet (fail)
          go_wp2_with fail
          go_roundw
          case rel =>
            refine ⟨Y, r, c, d, c', d', !odd, rfl, by rw [k2], ?_, ?_, ⟨HNx.out (by omega) (by rw [← HDD.out, ← HYR.out]; omega), hcB, hdB, hc'B, hd'B, hYB, by omega⟩, ?_⟩
            · exact Eq.trans (((((((Only.refl (w.heap.size + 1) wr).drewN _).set 0 _).set 1 _).set 2 _).set 3 _ |>.set 4 _).block w.heap.size (by omega)) hR.out
            · exact StepsAt.store (w := wr.drewN _) hS.out
            · exact hBe.out.trans ((((((Only.refl (w.heap.size + 1) wr).drewN _).set 0 _).set 1 _).set 2 _).set 3 _ |>.set 4 _ |>.below (by omega))
          case measure => simp [intOf, k2]; omega

end Go.Proofs.YtojploidgagmgaaGreatDoor

/- Shifts of limbs, and the zeros ahead of a limb's highest bit. -/
namespace Go.Proofs.YtojploidgagmgaaGreatDoor
open Go Go.RowKit Go.Proofs Lim

theorem B_eq : B = 2 ^ 64 := by decide

/-- The number of zeros ahead of a limb's highest bit. -/
def lz (y : Nat) : Nat := 64 - Lib.bitLen y

theorem bitLen_le64 {y : Nat} (hy : y < B) : Lib.bitLen y ≤ 64 := by
  have := Any.bitLen_le64 (y : Int) (by omega) (by unfold B at hy; omega)
  simpa using this

theorem lz_any (y : Nat) (hy : y < B) (w : World) : Calls Tryz.prog 160 #[u y] w fun e w' => e = .returned (.int .i64 (lz y : Nat)) ∧ w = w' := by
  refine (Tryz.bits_LeadingZeros64 y w (by omega) (by unfold B at hy; omega)).mono ?_
  rintro e w' ⟨rfl, rfl⟩
  refine ⟨?_, rfl⟩
  have h := bitLen_le64 hy
  unfold lz
  rw [Int.toNat_natCast, show (64 - (Lib.bitLen y : Int)) = ((64 - Lib.bitLen y : Nat) : Int) from by omega]

theorem bitLenAux_spec : ∀ (f x : Nat), x < 2 ^ f → x < 2 ^ Lib.bitLenAux f x ∧ (x ≠ 0 → 2 ^ (Lib.bitLenAux f x - 1) ≤ x)
  | 0, x, h => by
    have : x = 0 := by simpa using h
    subst this; simp [Lib.bitLenAux]
  | f + 1, x, h => by
    unfold Lib.bitLenAux
    split
    · rename_i h0; subst h0; simp
    · rename_i h0
      have hx : x / 2 < 2 ^ f := by rw [Nat.pow_succ] at h; omega
      obtain ⟨h1, h2⟩ := bitLenAux_spec f (x / 2) hx
      have hz : x / 2 = 0 → Lib.bitLenAux f (x / 2) = 0 := fun e => by rw [e]; cases f <;> simp [Lib.bitLenAux]
      generalize Lib.bitLenAux f (x / 2) = n at *
      refine ⟨by rw [Nat.add_comm, Nat.pow_succ]; omega, fun _ => ?_⟩
      rcases Nat.eq_zero_or_pos n with hn | hn
      · subst hn; simp; omega
      · have h3 := h2 (fun e => by have := hz e; omega)
        rw [show 1 + n - 1 = (n - 1) + 1 from by omega, Nat.pow_succ]
        omega

theorem bitLen_spec' {x : Nat} (h : x < B) : x < 2 ^ Lib.bitLen x ∧ (x ≠ 0 → 2 ^ (Lib.bitLen x - 1) ≤ x) := bitLenAux_spec 64 x (by rw [← B_eq]; exact h)

theorem lz_spec {y : Nat} (h0 : 0 < y) (hy : y < B) : lz y ≤ 63 ∧ y * 2 ^ lz y < B ∧ B ≤ 2 * (y * 2 ^ lz y) := by
  have h := bitLen_le64 hy
  obtain ⟨h1, h2⟩ := bitLen_spec' hy
  have h3 := h2 (by omega)
  have hb : 1 ≤ Lib.bitLen y := by
    rcases Nat.eq_zero_or_pos (Lib.bitLen y) with e | e
    · rw [e] at h1; simp at h1; omega
    · exact e
  unfold lz
  generalize Lib.bitLen y = n at *
  have e1 : 2 ^ n * 2 ^ (64 - n) = B := by rw [← Nat.pow_add, B_eq]; congr 1; omega
  have e2 : 2 * 2 ^ (n - 1) = 2 ^ n := by rw [Nat.mul_comm, ← Nat.pow_succ]; congr 1; omega
  have hp : 0 < 2 ^ (64 - n) := Nat.pow_pos (by omega)
  refine ⟨by omega, ?_, ?_⟩
  · rw [← e1]; exact (Nat.mul_lt_mul_right hp).2 h1
  · rw [← e1, ← e2, Nat.mul_assoc]
    exact Nat.mul_le_mul_left _ (Nat.mul_le_mul_right _ h3)

theorem shl_split (x s : Nat) (hs : s ≤ 64) : x * 2 ^ s = x / 2 ^ (64 - s) * B + x * 2 ^ s % B := by
  have e1 : 2 ^ (64 - s) * 2 ^ s = B := by rw [← Nat.pow_add, B_eq]; congr 1; omega
  have h := Nat.div_add_mod (x * 2 ^ s) B
  have e2 : x * 2 ^ s / B = x / 2 ^ (64 - s) := by rw [← e1, Nat.mul_div_mul_right _ _ (Nat.pow_pos (by omega))]
  rw [e2] at h
  rw [Nat.mul_comm (x / 2 ^ (64 - s)) B]
  omega

theorem shr_lt {x s : Nat} (hx : x < B) (hs : s ≤ 64) : x / 2 ^ (64 - s) < 2 ^ s := by
  have e1 : 2 ^ (64 - s) * 2 ^ s = B := by rw [← Nat.pow_add, B_eq]; congr 1; omega
  exact Nat.div_lt_of_lt_mul (by omega)

theorem wrap_shl (x s : Nat) : IntKind.u64.wrap ((x : Int) * 2 ^ s) = ((x * 2 ^ s % B : Nat) : Int) := by
  rw [IntKind.wrap_u64]
  unfold B
  rw [Int.natCast_emod, Int.natCast_mul, Int.natCast_pow]
  rfl

theorem div_pow (x s : Nat) : (x : Int) / 2 ^ s = ((x / 2 ^ s : Nat) : Int) := by
  rw [Int.natCast_ediv, Int.natCast_pow]; rfl

theorem or_add {a b s : Nat} (hb : b < 2 ^ s) (h : a * 2 ^ s + b < B) : bits .or .u64 ((a * 2 ^ s : Nat) : Int) (b : Int) = ((a * 2 ^ s + b : Nat) : Int) := by
  rw [bits_or_u64_nat _ _ (by unfold B at h; omega) (by unfold B at h; omega)]
  congr 1
  rw [← Nat.shiftLeft_eq, Nat.shiftLeft_add_eq_or_of_lt hb]

theorem or_add' {a b s : Nat} (hb : b < 2 ^ s) (h : a * 2 ^ s + b < B) : bits .or .u64 (b : Int) ((a * 2 ^ s : Nat) : Int) = ((a * 2 ^ s + b : Nat) : Int) := by
  rw [bits_or_u64_nat _ _ (by unfold B at h; omega) (by unfold B at h; omega)]
  congr 1
  rw [Nat.or_comm, ← Nat.shiftLeft_eq, Nat.shiftLeft_add_eq_or_of_lt hb]

/-- Half a limb. -/
def H : Nat := 4294967296
theorem HH : H * H = B := by decide
theorem H_pos : 0 < H := by decide

theorem and_half {x : Nat} (h : x < B) : bits .and .u64 (x : Int) 4294967295 = ((x % H : Nat) : Int) := by
  rw [and_low32 _ (by omega) (by unfold B at h; omega)]
  unfold H
  omega
theorem div_half (x : Nat) : (x : Int) / 4294967296 = ((x / H : Nat) : Int) := by unfold H; omega

end Go.Proofs.YtojploidgagmgaaGreatDoor

namespace Go.Proofs.YtojploidgagmgaaGreatDoor.Lim

/-- a guess of a limb that is not too small stays so when it is lowered. -/
theorem guess_init (v1 v2 v' u0 u1 u2 u' W Bs guess rest q : Nat) (_hW : v' < W) (hu' : u' < W) (hu2 : u2 < Bs)
    (hg : guess * v1 + rest = u0 * Bs + u1) (hr : rest < v1)
    (hq : q * ((v1 * Bs + v2) * W + v') ≤ ((u0 * Bs + u1) * Bs + u2) * W + u') : q ≤ guess := by
  -- q * v1 * Bs * W < ((u0*Bs+u1)*Bs + Bs) * W
  have h1 : q * (v1 * Bs * W) ≤ q * ((v1 * Bs + v2) * W + v') := Nat.mul_le_mul_left _ (by rw [Nat.add_mul]; omega)
  have h2 : ((u0 * Bs + u1) * Bs + u2) * W + u' < ((u0 * Bs + u1) * Bs + u2 + 1) * W := by
    have := Nat.add_mul ((u0 * Bs + u1) * Bs + u2) 1 W
    omega
  have h3 : ((u0 * Bs + u1) * Bs + u2 + 1) * W ≤ ((u0 * Bs + u1 + 1) * Bs) * W := Nat.mul_le_mul_right _ (by rw [Nat.add_mul (u0 * Bs + u1)]; omega)
  have h4 : (q * v1) * (Bs * W) < (u0 * Bs + u1 + 1) * (Bs * W) := by
    have e1 : q * (v1 * Bs * W) = (q * v1) * (Bs * W) := by simp only [Nat.mul_assoc]
    have e2 : ((u0 * Bs + u1 + 1) * Bs) * W = (u0 * Bs + u1 + 1) * (Bs * W) := by simp only [Nat.mul_assoc]
    omega
  have h5 : q * v1 < u0 * Bs + u1 + 1 := Nat.lt_of_mul_lt_mul_right h4
  have h6 : q * v1 < (guess + 1) * v1 := by rw [Nat.add_mul]; omega
  have := Nat.lt_of_mul_lt_mul_right h6
  omega

theorem guess_lower (v1 v2 v' u0 u1 u2 u' W Bs guess rest q : Nat) (hu' : u' < W)
    (hg : guess * v1 + rest = u0 * Bs + u1) (hbig : rest * Bs + u2 < guess * v2)
    (hq : q * ((v1 * Bs + v2) * W + v') ≤ ((u0 * Bs + u1) * Bs + u2) * W + u') : q < guess := by
  have h1 : ((u0 * Bs + u1) * Bs + u2) < guess * (v1 * Bs + v2) := by
    rw [← hg, Nat.add_mul, Nat.mul_add, ← Nat.mul_assoc]; omega
  have h2 : (((u0 * Bs + u1) * Bs + u2) + 1) * W ≤ guess * (v1 * Bs + v2) * W := Nat.mul_le_mul_right _ h1
  rw [Nat.add_mul] at h2
  have h3 : q * ((v1 * Bs + v2) * W) ≤ q * ((v1 * Bs + v2) * W + v') := Nat.mul_le_mul_left _ (by omega)
  have h4 : q * ((v1 * Bs + v2) * W) < guess * ((v1 * Bs + v2) * W) := by rw [← Nat.mul_assoc guess]; omega
  exact Nat.lt_of_mul_lt_mul_right h4

/-- a guess that fits three limbs is at most one too great. -/
theorem guess_done (v1 v2 v' u0 u1 u2 u' W Bs guess q : Nat) (hW : v' < W) (hgB : guess ≤ Bs) (hv1 : 0 < v1)
    (hfit : guess * (v1 * Bs + v2) ≤ (u0 * Bs + u1) * Bs + u2)
    (hq : ((u0 * Bs + u1) * Bs + u2) * W + u' < (q + 1) * ((v1 * Bs + v2) * W + v')) : guess ≤ q + 1 := by
  have h1 : guess * (v1 * Bs + v2) * W ≤ ((u0 * Bs + u1) * Bs + u2) * W := Nat.mul_le_mul_right _ hfit
  have h2 : guess * v' ≤ Bs * W := Nat.mul_le_mul hgB (by omega)
  have h3 : Bs * W ≤ (v1 * Bs + v2) * W + v' := by
    have : 1 * Bs * W ≤ (v1 * Bs + v2) * W := Nat.mul_le_mul_right _ (Nat.le_trans (Nat.mul_le_mul_right _ hv1) (by omega))
    rw [Nat.one_mul] at this; omega
  have h4 : guess * ((v1 * Bs + v2) * W + v') < (q + 1 + 1) * ((v1 * Bs + v2) * W + v') := by
    rw [Nat.mul_add guess, ← Nat.mul_assoc, Nat.add_mul (q + 1) 1, Nat.one_mul]; omega
  have := Nat.lt_of_mul_lt_mul_right h4
  omega

theorem guess_full (v1 v2 v' u0 u1 u2 u' W Bs q : Nat) (hW : v' < W) (hB : 0 < Bs) (hv2 : v2 < Bs) (hu0 : v1 ≤ u0) (hv1 : Bs ≤ 2 * v1)
    (hq : ((u0 * Bs + u1) * Bs + u2) * W + u' < (q + 1) * ((v1 * Bs + v2) * W + v')) : Bs - 1 ≤ q + 1 := by
  -- v < (v1 + 1) * Bs * W and u ≥ v1 * Bs * Bs * W
  have hv : (v1 * Bs + v2) * W + v' < (v1 + 1) * Bs * W := by
    have h : (v1 * Bs + v2 + 1) * W ≤ (v1 + 1) * Bs * W := Nat.mul_le_mul_right _ (by rw [Nat.add_mul]; omega)
    rw [Nat.add_mul (v1 * Bs + v2) 1] at h
    omega
  have hu : v1 * Bs * Bs * W ≤ ((u0 * Bs + u1) * Bs + u2) * W + u' := by
    have h1 : v1 * Bs * Bs ≤ (u0 * Bs + u1) * Bs + u2 := by
      have := Nat.mul_le_mul_right Bs (show v1 * Bs ≤ u0 * Bs + u1 from by have := Nat.mul_le_mul_right Bs hu0; omega)
      omega
    have := Nat.mul_le_mul_right W h1
    omega
  have h : v1 * Bs * Bs * W < (q + 1) * ((v1 + 1) * Bs * W) := by
    have := Nat.mul_le_mul_left (q + 1) (Nat.le_of_lt hv)
    omega
  have h' : (v1 * Bs) * (Bs * W) < ((q + 1) * (v1 + 1)) * (Bs * W) := by
    have e1 : v1 * Bs * Bs * W = (v1 * Bs) * (Bs * W) := by simp only [Nat.mul_assoc]
    have e2 : (q + 1) * ((v1 + 1) * Bs * W) = ((q + 1) * (v1 + 1)) * (Bs * W) := by simp only [Nat.mul_assoc]
    omega
  have h5 : v1 * Bs < (q + 1) * (v1 + 1) := Nat.lt_of_mul_lt_mul_right h'
  rcases Nat.lt_or_ge (q + 1) (Bs - 1) with hlt | hge
  · exfalso
    have h6 : (q + 1) * (v1 + 1) ≤ (Bs - 2) * (v1 + 1) := Nat.mul_le_mul_right _ (by omega)
    have h7 : (Bs - 2) * (v1 + 1) = (Bs - 2) * v1 + (Bs - 2) := by rw [Nat.mul_add, Nat.mul_one]
    have h8 : v1 * Bs = (Bs - 2) * v1 + 2 * v1 := by
      rw [← Nat.add_mul, Nat.mul_comm]; congr 1; omega
    omega
  · exact hge

end Go.Proofs.YtojploidgagmgaaGreatDoor.Lim

/- math/bits.Div64: the quotient of two limbs by one, as the library's own text reckons it. -/
namespace Go.Proofs.YtojploidgagmgaaGreatDoor
open Go Go.RowKit Go.Proofs Lim

/-- The first guess of a digit, and how far it can be from the truth. -/
theorem digit_init {U1 u2 v1 v0 : Nat} (hU : U1 < v1 * H + v0) (hv0 : v0 < H) (hu2 : u2 < H) (hv1 : H ≤ 2 * v1) :
    (U1 * H + u2) / (v1 * H + v0) ≤ U1 / v1 ∧ U1 / v1 ≤ H + 1 := by
  have hv1p : 0 < v1 := by have := H_pos; omega
  refine ⟨?_, ?_⟩
  · have h := guess_init v1 v0 0 0 U1 u2 0 1 H (U1 / v1) (U1 % v1) ((U1 * H + u2) / (v1 * H + v0)) (by omega) (by omega) hu2
      (by have := Nat.div_add_mod U1 v1; rw [Nat.zero_mul, Nat.zero_add, Nat.mul_comm]; exact this) (Nat.mod_lt _ hv1p)
      (by have := Nat.div_mul_le_self (U1 * H + u2) (v1 * H + v0); simpa using this)
    exact h
  · have h1 : U1 < v1 * (H + 2) := by rw [Nat.mul_add]; omega
    have := Nat.div_lt_of_lt_mul h1
    omega

theorem digit_lt {U1 u2 v1 v0 : Nat} (hU : U1 < v1 * H + v0) (hu2 : u2 < H) : (U1 * H + u2) / (v1 * H + v0) < H := by
  refine Nat.div_lt_of_lt_mul ?_
  have : (U1 + 1) * H ≤ (v1 * H + v0) * H := Nat.mul_le_mul_right _ hU
  rw [Nat.add_mul] at this
  omega

theorem digit_lower {U1 u2 v1 v0 g r : Nat} (hg : g * v1 + r = U1) (hbig : r * H + u2 < g * v0) : (U1 * H + u2) / (v1 * H + v0) < g := by
  refine guess_lower v1 v0 0 0 U1 u2 0 1 H g r _ (by omega) (by simpa using hg) hbig ?_
  have := Nat.div_mul_le_self (U1 * H + u2) (v1 * H + v0)
  simpa using this

theorem digit_done {U1 u2 v1 v0 g r : Nat} (hg : g * v1 + r = U1) (hfit : g * v0 ≤ r * H + u2) (hv : 0 < v1) : g ≤ (U1 * H + u2) / (v1 * H + v0) := by
  have hp : 0 < v1 * H := Nat.mul_pos hv H_pos
  refine (Nat.le_div_iff_mul_le (by omega)).2 ?_
  rw [← hg, Nat.mul_add, Nat.add_mul, Nat.mul_assoc]
  omega

theorem digit_over {U1 u2 v1 v0 g r : Nat} (hg : g * v1 + r = U1) (hr : H ≤ r) (hgH : g ≤ H) (hv0 : v0 < H) (hv : 0 < v1) : g ≤ (U1 * H + u2) / (v1 * H + v0) := by
  refine digit_done hg ?_ hv
  have h1 : g * v0 ≤ H * H := Nat.mul_le_mul hgH (by omega)
  have h2 : H * H ≤ r * H := Nat.mul_le_mul_right _ hr
  omega

theorem digit_next {G R v1 U : Nat} (h : G * v1 + R = U) (hG : 1 ≤ G) : (G - 1) * v1 + (R + v1) = U := by
  rw [← h]
  have : G * v1 = (G - 1) * v1 + v1 := by rw [← Nat.succ_mul]; congr 1; omega
  omega

theorem digit_exit {U1 u2 v1 v0 G R Q : Nat} (hQ : (U1 * H + u2) / (v1 * H + v0) = Q) (hg : G * v1 + R = U1) (hlt : Q < G) (hG : G ≤ H + 1) (hr : H ≤ R + v1) (hv0 : v0 < H) (hv : 0 < v1) :
    G - 1 = Q := by
  have h := digit_over (u2 := u2) (digit_next hg (by omega)) hr (by omega) hv0 hv
  omega

theorem digit_stop {U1 u2 v1 v0 G R Q : Nat} (hQ : (U1 * H + u2) / (v1 * H + v0) = Q) (hg : G * v1 + R = U1) (hle : Q ≤ G) (hfit : ¬ H * R + u2 < G * v0) (hv : 0 < v1) : G = Q := by
  have h := digit_done (u2 := u2) (v0 := v0) hg (by rw [Nat.mul_comm R]; omega) hv
  omega

theorem mul_fits {G v0 : Nat} (h1 : G < H) (h2 : v0 < H) : G * v0 < B := by
  rw [← HH]
  have := Nat.mul_le_mul (Nat.le_of_lt h1) (Nat.le_of_lt h2)
  have h3 : G * v0 ≤ (H - 1) * (H - 1) := Nat.mul_le_mul (by omega) (by omega)
  have h4 : (H - 1) * (H - 1) < H * H := by decide
  omega

theorem div64_small (lo y : Nat) (hy : 0 < y) (hlo : lo < B) (w : World) :
    Calls Tryz.prog 177 #[u 0, u lo, u y] w fun e w' => e = .returned (.tuple #[u (lo / y), u (lo % y)]) ∧ ∃ k, w' = w.drewN k := by
  have h1 : (((y : Nat) : Int) == 0) = false := by rw [beq_eq_false_iff_ne]; omega
  have h2 : (1 : Int) ≤ (y : Int) := by omega
  go_enter Tryz.func177, Tryz.ntmps177
  go_wp2_with fail
  go_quiet (fail)
  go_wp2_with fail
  go_ret2
  refine ⟨?_, _, rfl⟩
  show Ending.returned (.tuple #[.int .u64 (IntKind.u64.wrap ((lo : Int) / (y : Int))), .int .u64 ((lo : Int) % (y : Int))]) = _
  have : lo / y ≤ lo := Nat.div_le_self _ _
  rw [← Int.natCast_ediv, ← Int.natCast_emod, wrap_nat (by omega)]


set_option maxRecDepth 100000 in
theorem div64_any (hi lo y : Nat) (hhi : hi < y) (hhi0 : 0 < hi) (hlo : lo < B) (hyB : y < B) (w : World) :
    Calls Tryz.prog 177 #[u hi, u lo, u y] w fun e w' => e = .returned (.tuple #[u ((hi * B + lo) / y), u ((hi * B + lo) % y)]) ∧ ∃ k, w' = w.drewN k := by
  have h1 : (((y : Nat) : Int) == 0) = false := by rw [beq_eq_false_iff_ne]; omega
  have h2 : (((hi : Nat) : Int) == 0) = false := by rw [beq_eq_false_iff_ne]; omega
  obtain ⟨hs, hyn, hyn2⟩ := lz_spec (by omega) hyB
  have hsp := shl_split lo (lz y) (by omega)
  have hsl := shr_lt hlo (s := lz y) (by omega)
  have hhs : (hi + 1) * 2 ^ lz y ≤ y * 2 ^ lz y := Nat.mul_le_mul_right _ hhi
  rw [Nat.add_mul, Nat.one_mul] at hhs
  have e1 : IntKind.u64.wrap ((y : Int) * 2 ^ lz y) = ((y * 2 ^ lz y : Nat) : Int) := by rw [wrap_shl, Nat.mod_eq_of_lt hyn]
  have e2 : IntKind.u64.wrap ((hi : Int) * 2 ^ lz y) = ((hi * 2 ^ lz y : Nat) : Int) := by rw [wrap_shl, Nat.mod_eq_of_lt (Nat.lt_of_le_of_lt (Nat.le_add_right _ _) (Nat.lt_of_le_of_lt hhs hyn))]
  have e3 : bits .or .u64 ((hi * 2 ^ lz y : Nat) : Int) ((lo : Int) / 2 ^ (64 - lz y)) = ((hi * 2 ^ lz y + lo / 2 ^ (64 - lz y) : Nat) : Int) := by
    rw [div_pow, or_add hsl (Nat.lt_trans (Nat.lt_of_lt_of_le (Nat.add_lt_add_left hsl _) hhs) hyn)]
  have e4 := wrap_shl lo (lz y)
  have hq : (hi * B + lo) * 2 ^ lz y = (hi * 2 ^ lz y + lo / 2 ^ (64 - lz y)) * B + lo * 2 ^ lz y % B := by
    rw [Nat.add_mul, Nat.add_mul, Nat.mul_right_comm]
    omega
  have hlt : hi * 2 ^ lz y + lo / 2 ^ (64 - lz y) < y * 2 ^ lz y := Nat.lt_of_lt_of_le (Nat.add_lt_add_left hsl _) hhs
  have hdiv : (hi * B + lo) / y = ((hi * B + lo) * 2 ^ lz y) / (y * 2 ^ lz y) := (Nat.mul_div_mul_right _ _ (Nat.pow_pos (by omega))).symm
  have hmod : (hi * B + lo) % y = ((hi * B + lo) * 2 ^ lz y) % (y * 2 ^ lz y) / 2 ^ lz y := by
    rw [Nat.mul_mod_mul_right, Nat.mul_div_cancel _ (Nat.pow_pos (by omega))]
  rw [hdiv, hmod, hq]
  have hl10 : lo * 2 ^ lz y % B < B := Nat.mod_lt _ B_pos
  rw [show ((hi * 2 ^ lz y : Nat) : Int) = ((hi * 2 ^ lz y : Nat) : Int) from rfl] at e2
  generalize hg1 : y * 2 ^ lz y = yn at *
  generalize hg2 : hi * 2 ^ lz y + lo / 2 ^ (64 - lz y) = un32 at *
  generalize hg3 : lo * 2 ^ lz y % B = un10 at *
  generalize hg4 : hi * 2 ^ lz y = hn at *
  clear hdiv hmod hq hsp hsl hhs hg1 hg2 hg3 hg4
  have hz : lz y < 64 := by omega
  generalize hgs : lz y = s at *
  have f1 := div_half yn
  have f2 := and_half hyn
  have f3 := div_half un10
  have f4 := and_half hl10
  have d1 := Nat.div_add_mod yn H
  have d2 := Nat.div_add_mod un10 H
  have d3 := Nat.mod_lt yn H_pos
  have d4 := Nat.mod_lt un10 H_pos
  generalize yn / H = v1 at *
  generalize yn % H = v0 at *
  generalize un10 / H = n1 at *
  generalize un10 % H = n0 at *
  have hB : B = H * H := by rw [HH]
  have hv1 : H ≤ 2 * v1 := by
    rw [← d1, hB] at hyn2
    have : H * H < 2 * (H * (v1 + 1)) := by rw [Nat.mul_add]; omega
    rw [Nat.mul_left_comm] at this
    have := Nat.lt_of_mul_lt_mul_left this
    have : H % 2 = 0 := by decide
    omega
  have hn1 : n1 < H := by
    have h3 : H * n1 < H * H := by omega
    exact Nat.lt_of_mul_lt_mul_left h3
  have hv1H : v1 < H := by
    have h3 : H * v1 < H * H := by omega
    exact Nat.lt_of_mul_lt_mul_left h3
  rw [Nat.mul_comm] at d1 d2
  obtain ⟨g1, g2⟩ := digit_init (u2 := n1) (by rw [d1]; exact hlt) d3 hn1 hv1
  have g3 := digit_lt (u2 := n1) (v1 := v1) (v0 := v0) (by rw [d1]; exact hlt) hn1
  have hv1p : 0 < v1 := by have := H_pos; omega
  obtain ⟨g, hgd⟩ : ∃ g, g = un32 / v1 := ⟨_, rfl⟩
  obtain ⟨r, hrd⟩ : ∃ r, r = un32 % v1 := ⟨_, rfl⟩
  have hgr : g * v1 + r = un32 := by rw [hgd, hrd, Nat.mul_comm]; exact Nat.div_add_mod un32 v1
  have hrlt : r < v1 := by rw [hrd]; exact Nat.mod_lt _ hv1p
  rw [← hgd] at g1 g2
  have k1 : ((un32 : Nat) : Int) / (v1 : Int) = (g : Int) := by rw [hgd, Int.natCast_ediv]
  have hgB : g * v1 ≤ un32 := by omega
  obtain ⟨p, hp⟩ : ∃ p, p = g * v1 := ⟨_, rfl⟩
  have k2 : IntKind.u64.wrap ((g : Int) * (v1 : Int)) = (p : Int) := by rw [hp, ← Int.natCast_mul, wrap_nat (by omega)]
  have k3 : IntKind.u64.wrap ((un32 : Int) - (p : Int)) = (r : Int) := by rw [wrap_sub (by omega) (by omega)]; congr 1; omega
  have hHH : H = 4294967296 := rfl
  rw [hHH] at g2 d3 d4 hn1 hv1H
  have HD1 := Lib.hid d1
  have HD2 := Lib.hid d2
  have Hg1 := Lib.hid g1
  have HB := Lib.hid hB
  have Hgr := Lib.hid hgr
  have Hp := Lib.hid hp
  clear d1 d2 hB g1 hgr hp hgd hrd hHH
  go_enter Tryz.func177, Tryz.ntmps177
  go_upto_region 15 with (go_at_call 160; refine (lz_any _ hyB _).mono ?_; rintro e w' ⟨rfl, rfl⟩)
  go_upto_block 0 with (fail)
  go_cut [15] (fun q w' => q = u ((un32 * H + n1) / (v1 * H + v0)) ∧ w' = w)
  case first =>
    clear k1 k2 k3 e1 e2 e3 e4 f1 f2 f3 f4 h1 h2
    generalize hQ : (un32 * H + n1) / (v1 * H + v0) = Q at *
    have HQ := Lib.hid hQ
    clear hQ
    have i3 : (v0 : Int) < 4294967296 := by omega
    have i5 : (n1 : Int) < 4294967296 := by omega
    have i6 : (v1 : Int) < 4294967296 := by omega
    have i7 : (g : Int) ≤ 4294967297 := by omega
    clear d3 d4 hn1 hv1H g2
    go_wp2_with fail
    go_loop [15, 16] (fun q r => ∃ G R : Nat, q = u G ∧ r = u R ∧ (G : Int) ≤ 4294967297 ∧ (R : Int) < 4294967296 ∧ Hid (G * v1 + R = un32 ∧ Q ≤ G)) (fun q _ => (intOf q).toNat)
    case atStart => exact ⟨g, r, rfl, rfl, i7, by omega, Hgr.out, Hg1.out⟩
    case round =>
      obtain ⟨G, R, rfl, rfl, hG, hR, hGR⟩ := hrel
      by_cases hbig : (4294967296 : Int) ≤ (G : Int)
      · have h1G : (1 : Int) ≤ (G : Int) := by omega
        by_cases hover : (4294967296 : Int) ≤ (R : Int) + (v1 : Int)
        · go_wp2_with fail
          go_meet
          case rel =>
            refine ⟨?_, rfl⟩
            have := digit_exit HQ.out hGR.out.1 (by have := g3; unfold H at this; omega) (by unfold H; omega) (by unfold H; omega) (by unfold H; omega) hv1p
            rw [← this]
            show Value.int .u64 _ = Value.int .u64 _
            congr 1
            omega
        · go_wp2_with fail
          go_round
          case rel =>
            refine ⟨G - 1, R + v1, ?_, by go_num, by omega, by omega, digit_next hGR.out.1 (by omega), ?_⟩
            · show Value.int .u64 _ = Value.int .u64 _
              congr 1
              omega
            · have := g3; unfold H at this; omega
          case measure => simp [intOf]; omega
      · obtain ⟨m, hm⟩ : ∃ m, m = G * v0 := ⟨_, rfl⟩
        have km : IntKind.u64.wrap ((G : Int) * (v0 : Int)) = (m : Int) := by
          rw [hm, ← Int.natCast_mul, wrap_nat (mul_fits (by unfold H; omega) (by unfold H; omega))]
        have HM := Lib.hid hm
        clear hm
        by_cases htest : 4294967296 * (R : Int) + (n1 : Int) < (m : Int)
        · have hlow : Q < G := by
            have := digit_lower (u2 := n1) (v0 := v0) hGR.out.1 (by rw [← HM.out, Nat.mul_comm]; unfold H; omega)
            rw [HQ.out] at this
            exact this
          have h1G : (1 : Int) ≤ (G : Int) := by omega
          by_cases hover : (4294967296 : Int) ≤ (R : Int) + (v1 : Int)
          · go_wp2_with fail
            go_meet
            case rel =>
              refine ⟨?_, rfl⟩
              have := digit_exit HQ.out hGR.out.1 hlow (by unfold H; omega) (by unfold H; omega) (by unfold H; omega) hv1p
              rw [← this]
              show Value.int .u64 _ = Value.int .u64 _
              congr 1
              omega
          · go_wp2_with fail
            go_round
            case rel =>
              refine ⟨G - 1, R + v1, ?_, by go_num, by omega, by omega, digit_next hGR.out.1 (by omega), by omega⟩
              show Value.int .u64 _ = Value.int .u64 _
              congr 1
              omega
            case measure => simp [intOf]; omega
        · have hst := digit_stop HQ.out hGR.out.1 hGR.out.2 (by rw [← HM.out]; unfold H; omega) hv1p
          have HST := Lib.hid hst
          clear hst
          go_wp2_with fail
          go_meet
          case rel => exact ⟨by rw [HST.out], rfl⟩
  case rest =>
    obtain ⟨rfl, rfl⟩ := hcut
    clear k1 k2 k3 e1 e2 e3 e4 f1 f2 f3 f4 h1 h2 Hg1 Hgr Hp hgB hrlt g2
    have hyv : v1 * H + v0 = yn := HD1.out
    have hBH : B = H * H := HB.out
    rw [hyv] at g3 ⊢
    obtain ⟨Q1, hQ1⟩ : ∃ Q1, Q1 = (un32 * H + n1) / yn := ⟨_, rfl⟩
    obtain ⟨R1, hR1⟩ : ∃ R1, R1 = (un32 * H + n1) % yn := ⟨_, rfl⟩
    have hR1lt : R1 < yn := by rw [hR1]; exact Nat.mod_lt _ (by omega)
    have hdm : Q1 * yn + R1 = un32 * H + n1 := by rw [hQ1, hR1, Nat.mul_comm]; exact Nat.div_add_mod _ _
    rw [← hQ1] at g3 ⊢
    obtain ⟨P1, hP1⟩ : ∃ P1, P1 = Q1 * yn := ⟨_, rfl⟩
    have k4 : IntKind.u64.wrap (IntKind.u64.wrap (IntKind.u64.wrap ((un32 : Int) * 4294967296) + (n1 : Int)) - IntKind.u64.wrap ((Q1 : Int) * (yn : Int))) = (R1 : Int) := by
      rw [← Int.natCast_mul Q1 yn, ← hP1]
      rw [← hP1] at hdm
      simp only [IntKind.wrap_u64]
      unfold H at hdm
      unfold B at hyn
      omega
    obtain ⟨U2, hU2⟩ : ∃ U2, U2 = R1 * H + n0 := ⟨_, rfl⟩
    have g4 : U2 / yn < H := by rw [hU2, ← hyv]; exact digit_lt (by rw [hyv]; exact hR1lt) d4
    obtain ⟨g1', g2'⟩ := digit_init (U1 := R1) (u2 := n0) (v1 := v1) (v0 := v0) (by rw [hyv]; exact hR1lt) d3 d4 hv1
    obtain ⟨gg, hgd⟩ : ∃ gg, gg = R1 / v1 := ⟨_, rfl⟩
    obtain ⟨rr, hrd⟩ : ∃ rr, rr = R1 % v1 := ⟨_, rfl⟩
    have hgr : gg * v1 + rr = R1 := by rw [hgd, hrd, Nat.mul_comm]; exact Nat.div_add_mod R1 v1
    have hrlt : rr < v1 := by rw [hrd]; exact Nat.mod_lt _ hv1p
    rw [← hgd] at g1' g2'
    have k1 : ((R1 : Nat) : Int) / (v1 : Int) = (gg : Int) := by rw [hgd, Int.natCast_ediv]
    have hgB : gg * v1 ≤ R1 := by omega
    obtain ⟨pp, hp⟩ : ∃ pp, pp = gg * v1 := ⟨_, rfl⟩
    have k2 : IntKind.u64.wrap ((gg : Int) * (v1 : Int)) = (pp : Int) := by rw [hp, ← Int.natCast_mul, wrap_nat (by omega)]
    have k3 : IntKind.u64.wrap ((R1 : Int) - (pp : Int)) = (rr : Int) := by rw [wrap_sub (by omega) (by omega)]; congr 1; omega
    have hHH : H = 4294967296 := rfl
    rw [hHH] at g2'
    have HQ1 := Lib.hid hQ1
    have HR1 := Lib.hid hR1
    have Hdm := Lib.hid hdm
    have HP1 := Lib.hid hP1
    have HU2 := Lib.hid hU2
    have Hyv := Lib.hid hyv
    have HBH := Lib.hid hBH
    have Hgr := Lib.hid hgr
    have Hp := Lib.hid hp
    have Hg1 := Lib.hid g1'
    clear hQ1 hR1 hdm hP1 hU2 hyv hBH hgr hp hgd hrd g1' hHH
    rw [HU2.out, ← Hyv.out] at g4
    go_upto_block 2 with (fail)
    go_cut [18] (fun q w' => q = u ((R1 * H + n0) / (v1 * H + v0)) ∧ w' = wc)
    case first =>
      clear k1 k2 k3 k4
      generalize hQ : (R1 * H + n0) / (v1 * H + v0) = Q at *
      have HQ := Lib.hid hQ
      clear hQ
      have i3 : (v0 : Int) < 4294967296 := by omega
      have i5 : (n0 : Int) < 4294967296 := by omega
      have i6 : (v1 : Int) < 4294967296 := by omega
      have i7 : (gg : Int) ≤ 4294967297 := by omega
      clear d3 d4 hn1 hv1H g2'
      go_wp2_with fail
      go_loop [18, 16] (fun q r => ∃ G R : Nat, q = u G ∧ r = u R ∧ (G : Int) ≤ 4294967297 ∧ (R : Int) < 4294967296 ∧ Hid (G * v1 + R = R1 ∧ Q ≤ G)) (fun q _ => (intOf q).toNat)
      case atStart => exact ⟨gg, rr, rfl, rfl, i7, by omega, Hgr.out, Hg1.out⟩
      case round =>
        obtain ⟨G, R, rfl, rfl, hG, hR, hGR⟩ := hrel
        by_cases hbig : (4294967296 : Int) ≤ (G : Int)
        · have h1G : (1 : Int) ≤ (G : Int) := by omega
          by_cases hover : (4294967296 : Int) ≤ (R : Int) + (v1 : Int)
          · go_wp2_with fail
            go_meet
            case rel =>
              refine ⟨?_, rfl⟩
              have := digit_exit HQ.out hGR.out.1 (by have := g4; unfold H at this; omega) (by unfold H; omega) (by unfold H; omega) (by unfold H; omega) hv1p
              rw [← this]
              show Value.int .u64 _ = Value.int .u64 _
              congr 1
              omega
          · go_wp2_with fail
            go_round
            case rel =>
              refine ⟨G - 1, R + v1, ?_, by go_num, by omega, by omega, digit_next hGR.out.1 (by omega), ?_⟩
              · show Value.int .u64 _ = Value.int .u64 _
                congr 1
                omega
              · have := g4; unfold H at this; omega
            case measure => simp [intOf]; omega
        · obtain ⟨m, hm⟩ : ∃ m, m = G * v0 := ⟨_, rfl⟩
          have km : IntKind.u64.wrap ((G : Int) * (v0 : Int)) = (m : Int) := by
            rw [hm, ← Int.natCast_mul, wrap_nat (mul_fits (by unfold H; omega) (by unfold H; omega))]
          have HM := Lib.hid hm
          clear hm
          by_cases htest : 4294967296 * (R : Int) + (n0 : Int) < (m : Int)
          · have hlow : Q < G := by
              have := digit_lower (u2 := n0) (v0 := v0) hGR.out.1 (by rw [← HM.out, Nat.mul_comm]; unfold H; omega)
              rw [HQ.out] at this
              exact this
            have h1G : (1 : Int) ≤ (G : Int) := by omega
            by_cases hover : (4294967296 : Int) ≤ (R : Int) + (v1 : Int)
            · go_wp2_with fail
              go_meet
              case rel =>
                refine ⟨?_, rfl⟩
                have := digit_exit HQ.out hGR.out.1 hlow (by unfold H; omega) (by unfold H; omega) (by unfold H; omega) hv1p
                rw [← this]
                show Value.int .u64 _ = Value.int .u64 _
                congr 1
                omega
            · go_wp2_with fail
              go_round
              case rel =>
                refine ⟨G - 1, R + v1, ?_, by go_num, by omega, by omega, digit_next hGR.out.1 (by omega), by omega⟩
                show Value.int .u64 _ = Value.int .u64 _
                congr 1
                omega
              case measure => simp [intOf]; omega
          · have hst := digit_stop HQ.out hGR.out.1 hGR.out.2 (by rw [← HM.out]; unfold H; omega) hv1p
            have HST := Lib.hid hst
            clear hst
            go_wp2_with fail
            go_meet
            case rel => exact ⟨by rw [HST.out], rfl⟩
    case rest =>
      obtain ⟨rfl, rfl⟩ := hcut
      clear k1 k2 k3 k4
      rw [Hyv.out]
      have hyB' := hyB
      obtain ⟨Q0, hQ0⟩ : ∃ Q0, Q0 = (R1 * H + n0) / yn := ⟨_, rfl⟩
      obtain ⟨R0, hR0⟩ : ∃ R0, R0 = (R1 * H + n0) % yn := ⟨_, rfl⟩
      have hR0lt : R0 < yn := by rw [hR0]; exact Nat.mod_lt _ (by omega)
      have hdm0 : Q0 * yn + R0 = R1 * H + n0 := by rw [hQ0, hR0, Nat.mul_comm]; exact Nat.div_add_mod _ _
      rw [Hyv.out, ← hQ0] at g4
      rw [← hQ0]
      obtain ⟨P0, hP0⟩ : ∃ P0, P0 = Q0 * yn := ⟨_, rfl⟩
      have k4 : IntKind.u64.wrap (IntKind.u64.wrap (IntKind.u64.wrap ((R1 : Int) * 4294967296) + (n0 : Int)) - IntKind.u64.wrap ((Q0 : Int) * (yn : Int))) = (R0 : Int) := by
        rw [← Int.natCast_mul Q0 yn, ← hP0]
        rw [← hP0] at hdm0
        simp only [IntKind.wrap_u64]
        unfold H at hdm0
        unfold B at hyn
        omega
      have k5 : IntKind.u64.wrap (IntKind.u64.wrap ((Q1 : Int) * 4294967296) + (Q0 : Int)) = ((Q1 * H + Q0 : Nat) : Int) := by
        have hHH : H = 4294967296 := rfl
        simp only [IntKind.wrap_u64]
        rw [hHH] at g3 g4 ⊢
        omega
      have hfin : un32 * B + un10 = (Q1 * H + Q0) * yn + R0 := by
        have h1 := Hdm.out
        have h2 := HD2.out
        have h3 := HBH.out
        rw [← h2, h3, Nat.add_mul, Nat.mul_right_comm Q1 H yn, ← Nat.mul_assoc un32]
        have h4 : (Q1 * yn + R1) * H = (un32 * H + n1) * H := by rw [h1]
        rw [Nat.add_mul, Nat.add_mul] at h4
        omega
      have f1 : (un32 * B + un10) / yn = Q1 * H + Q0 := by
        rw [hfin, Nat.mul_comm, Nat.mul_add_div (by omega), Nat.div_eq_of_lt hR0lt, Nat.add_zero]
      have f2 : (un32 * B + un10) % yn = R0 := by
        rw [hfin, Nat.mul_comm, Nat.mul_add_mod, Nat.mod_eq_of_lt hR0lt]
      obtain ⟨Qf, hQf⟩ : ∃ Qf, Qf = Q1 * H + Q0 := ⟨_, rfl⟩
      rw [← hQf] at k5 f1
      have F1 := Lib.hid f1
      have F2 := Lib.hid f2
      clear f1 f2 hfin hdm0 hQ0 hR0 hP0 hQf
      go_wp2_with fail
      go_ret2
      refine ⟨?_, 0, rfl⟩
      rw [F1.out, F2.out]
      show Ending.returned (.tuple #[.int .u64 (Qf : Int), .int .u64 ((R0 : Int) / 2 ^ s)]) = _
      rw [div_pow]

/-- The quotient of two limbs by one, and what remains: plain definitions, so that the walk leaves them as they are. -/
def quo2 (hi lo y : Nat) : Nat := (hi * B + lo) / y
def rem2 (hi lo y : Nat) : Nat := (hi * B + lo) % y

/-- bits.Div64, where the quotient is a limb. -/
theorem div64_all (hi lo y : Nat) (hhi : hi < y) (hlo : lo < B) (hyB : y < B) (w : World) :
    Calls Tryz.prog 177 #[u hi, u lo, u y] w fun e w' => e = .returned (.tuple #[u (quo2 hi lo y), u (rem2 hi lo y)]) ∧ ∃ k, w' = w.drewN k := by
  rcases Nat.eq_zero_or_pos hi with h | h
  · subst h
    have := div64_small lo y hhi hlo w
    simpa [quo2, rem2] using this
  · exact div64_any hi lo y hhi h hlo hyB w

end Go.Proofs.YtojploidgagmgaaGreatDoor

/- Comparisons of words and of naturals. -/
namespace Go.Proofs.YtojploidgagmgaaGreatDoor
open Go Go.RowKit Go.Proofs Lim

/-- -1, 0 or 1. -/
def cmpNat (x y : Nat) : Int := if x < y then -1 else if y < x then 1 else 0

theorem isNaN_u64 (x : Nat) (w : World) : Calls Tryz.prog 158 #[u x] w fun e w' => e = .returned (.bool false) ∧ w = w' := by
  go_enter Tryz.func158, Tryz.ntmps158
  go_wp2
  go_ret
  exact ⟨rfl, rfl⟩

theorem compare_u64 (x y : Nat) (w : World) : Calls Tryz.prog 141 #[u x, u y] w fun e w' => e = .returned (.int .i64 (cmpNat x y)) ∧ w = w' := by
  by_cases h1 : x < y
  · go_enter Tryz.func141, Tryz.ntmps141
    go_wp2_with (go_at_call 158; refine (isNaN_u64 _ _).mono ?_; rintro e w' ⟨rfl, rfl⟩)
    go_ret
    exact ⟨by rw [cmpNat, if_pos h1]; rfl, rfl⟩
  · by_cases h2 : y < x
    · go_enter Tryz.func141, Tryz.ntmps141
      go_wp2_with (go_at_call 158; refine (isNaN_u64 _ _).mono ?_; rintro e w' ⟨rfl, rfl⟩)
      go_ret
      exact ⟨by rw [cmpNat, if_neg (by omega), if_pos h2]; rfl, rfl⟩
    · go_enter Tryz.func141, Tryz.ntmps141
      go_wp2_with (go_at_call 158; refine (isNaN_u64 _ _).mono ?_; rintro e w' ⟨rfl, rfl⟩)
      go_ret
      exact ⟨by rw [cmpNat, if_neg (by omega), if_neg (by omega)]; rfl, rfl⟩

theorem val_split (l : List Nat) (j : Nat) (h : j < l.length) : val l = val (l.take j) + B ^ j * (l[j]?.getD 0 + B * val (l.drop (j + 1))) := by
  rw [val_take_drop l j (by omega), List.drop_eq_getElem_cons h, val, List.getElem?_eq_getElem h]
  rfl

theorem val_lt_of_limb {l m : List Nat} {j : Nat} (ol : Ok l) (hl : j < l.length) (hm : j < m.length) (hd : l.drop (j + 1) = m.drop (j + 1))
    (hlt : l[j]?.getD 0 < m[j]?.getD 0) : val l < val m := by
  rw [val_split l j hl, val_split m j hm, hd]
  have h1 := val_lt (ol.take j)
  rw [List.length_take, Nat.min_eq_left (by omega)] at h1
  have h2 : B ^ j * (l[j]?.getD 0 + B * val (m.drop (j + 1)) + 1) ≤ B ^ j * (m[j]?.getD 0 + B * val (m.drop (j + 1))) := Nat.mul_le_mul_left _ (by omega)
  rw [Nat.mul_add _ _ 1, Nat.mul_one] at h2
  omega

theorem val_lt_of_len {l m : List Nat} (ol : Ok l) (tm : Trim m) (h : l.length < m.length) : val l < val m := by
  have h1 := val_lt ol
  have h2 := val_pos_of_trim tm (by intro e; subst e; simp at h)
  have h3 : B ^ l.length ≤ B ^ (m.length - 1) := Nat.pow_le_pow_right B_pos (by omega)
  omega

theorem drop_step {l m : List Nat} {j : Nat} (hl : j < l.length) (hm : j < m.length) (hd : l.drop (j + 1) = m.drop (j + 1)) (he : l[j]?.getD 0 = m[j]?.getD 0) :
    l.drop j = m.drop j := by
  rw [List.drop_eq_getElem_cons hl, List.drop_eq_getElem_cons hm, hd]
  rw [List.getElem?_eq_getElem hl, List.getElem?_eq_getElem hm] at he
  exact congrArg (· :: m.drop (j + 1)) he

/-- What a call that only reads leaves. -/
def Gives (w : World) (v : Value) (e : Ending) (w' : World) : Prop := e = .returned v ∧ ∃ k, w' = w.drewN k

/-- natural.compare. -/
theorem compare_any (v1 v2 : Value) (m n : Nat) (w : World) (h1 : IsNat w v1 m) (h2 : IsNat w v2 n) :
    Calls Tryz.prog 142 #[v1, v2] w (Gives w (.int .i64 (cmpNat m n))) := by
  obtain ⟨xs, ⟨⟨ao, cap1, rfl, hc1, hc2, hr1⟩, ok1⟩, t1, rfl⟩ := h1
  obtain ⟨ys, ⟨⟨bo, cap2, rfl, hd1, hd2, hr2⟩, ok2⟩, t2, rfl⟩ := h2
  unfold maxLen at hc2 hd2
  have HR1 := Lib.hid hr1
  have HR2 := Lib.hid hr2
  have HO1 := Lib.hid ok1
  have HO2 := Lib.hid ok2
  have HT1 := Lib.hid t1
  have HT2 := Lib.hid t2
  clear hr1 hr2 ok1 ok2 t1 t2
  by_cases hlen : xs.length = ys.length
  · have hb : (((xs.length : Nat) : Int) != ((ys.length : Nat) : Int)) = false := by rw [hlen]; simp
    have HLen := Lib.hid hlen
    clear hlen
    go_enter Tryz.func142, Tryz.ntmps142
    go_wp2_with fail
    go_loopw [19] (fun i wr => ∃ k q, k ≤ xs.length ∧ i = .int .i64 (k : Int) ∧ wr = w.drewN q ∧ Hid (xs.drop (xs.length - k) = ys.drop (xs.length - k))) (fun i _ => xs.length - (intOf i).toNat)
    case atStart => exact ⟨0, 0, Nat.zero_le _, rfl, rfl, by rw [Nat.sub_zero, List.drop_length, HLen.out, List.drop_length]; rfl⟩
    case round =>
      obtain ⟨k, q, hk, rfl, rfl, hd⟩ := hrel
      by_cases hlt : k < xs.length
      · obtain ⟨b1, o1, rfl, row1⟩ := HR1.out (by omega)
        obtain ⟨b2, o2, rfl, row2⟩ := HR2.out (by have := HLen.out; omega)
        obtain ⟨j, hj⟩ : ∃ j, j + 1 + k = xs.length := ⟨xs.length - 1 - k, by omega⟩
        have hc1 : w.cell? ⟨b1, o1 + j, none⟩ = some (u (xs[j]?.getD 0)) := row1 j (by omega)
        have hc2 : w.cell? ⟨b2, o2 + j, none⟩ = some (u (ys[j]?.getD 0)) := row2 j (by have := HLen.out; omega)
        have hy : (j : Int) < (ys.length : Int) := by have := HLen.out; omega
        have hx : (j : Int) < (xs.length : Int) := by omega
        have hix : ((xs.length : Nat) : Int) - 1 - (k : Int) = (j : Int) := by omega
        have HJ := Lib.hid hj
        clear hj
        generalize hxg : xs[j]?.getD 0 = x at *
        generalize hyg : ys[j]?.getD 0 = y at *
        have HX := Lib.hid hxg
        have HY := Lib.hid hyg
        clear hxg hyg row1 row2
        by_cases hxy : x = y
        · have hne : (((x : Nat) : Int) != ((y : Nat) : Int)) = false := by rw [hxy]; simp
          have HXY := Lib.hid hxy
          clear hxy
          go_wp2_with fail
          go_quiet (fail)
          go_wp2_with fail
          go_roundw
          case rel =>
            refine ⟨k + 1, _, by omega, by go_num, rfl, ?_⟩
            have hj := HJ.out
            have hlen := HLen.out
            rw [show xs.length - (k + 1) = j from by omega]
            refine drop_step (by omega) (by omega) ?_ (by rw [HX.out, HY.out, HXY.out])
            have := hd.out
            rw [show xs.length - k = j + 1 from by omega] at this
            exact this
          case measure => simp [intOf]; omega
        · have hne : (((x : Nat) : Int) != ((y : Nat) : Int)) = true := by rw [bne_iff_ne]; omega
          have HXY := Lib.hid hxy
          clear hxy
          go_wp2_with fail
          go_quiet (fail)
          go_wp2_with fail
          go_quiet ((go_at_call 141; refine (compare_u64 x y _).mono ?_; rintro e w' ⟨rfl, rfl⟩; exact ⟨rfl, _, rfl⟩))
          go_wp2_with fail
          go_ret
          refine ⟨?_, _, drew3 _ _ _ _⟩
          have hj := HJ.out
          have hlen := HLen.out
          have hdd := hd.out
          rw [show xs.length - k = j + 1 from by omega] at hdd
          show Ending.returned (.int .i64 (cmpNat x y)) = _
          rcases Nat.lt_or_gt_of_ne HXY.out with h | h
          · have := val_lt_of_limb HO1.out (by omega) (by omega) hdd (by rw [HX.out, HY.out]; exact h)
            rw [cmpNat, if_pos h, cmpNat, if_pos this]
          · have := val_lt_of_limb HO2.out (by omega) (by omega) hdd.symm (by rw [HX.out, HY.out]; exact h)
            rw [cmpNat, if_neg (by omega), if_pos h, cmpNat, if_neg (by omega), if_pos this]
      · obtain rfl : k = xs.length := by omega
        go_wp2_with fail
        go_ret
        refine ⟨?_, _, rfl⟩
        have h0 := hd.out
        rw [Nat.sub_self] at h0
        have : xs = ys := by simpa using h0
        subst this
        show Ending.returned (.int .i64 0) = _
        rw [cmpNat, if_neg (by omega), if_neg (by omega)]
  · have hb : (((xs.length : Nat) : Int) != ((ys.length : Nat) : Int)) = true := by rw [bne_iff_ne]; omega
    go_enter Tryz.func142, Tryz.ntmps142
    go_wp2_with fail
    refine (Tryz.cmp_Compare_int _ _ _).mono ?_
    rintro e w' ⟨rfl, rfl⟩
    go_wp2_with fail
    go_ret
    refine ⟨?_, 0, rfl⟩
    rcases Nat.lt_or_gt_of_ne hlen with h | h
    · have := val_lt_of_len HO1.out HT2.out h
      rw [cmpNat, if_pos this]
      show Ending.returned (.int .i64 (Lib.compareInt _ _)) = _
      rw [Lib.compareInt, if_pos (by omega)]
    · have := val_lt_of_len HO2.out HT1.out h
      rw [cmpNat, if_neg (by omega), if_pos this]
      show Ending.returned (.int .i64 (Lib.compareInt _ _)) = _
      rw [Lib.compareInt, if_neg (by omega), if_pos (by omega)]

end Go.Proofs.YtojploidgagmgaaGreatDoor

/- guessLimb: the limb of a quotient, or one more. -/
namespace Go.Proofs.YtojploidgagmgaaGreatDoor
open Go Go.RowKit Go.Proofs Lim
attribute [local go_sem] run_add64 run_sub64

theorem top2 (D : List Nat) (j : Nat) (h : D.length = j + 2) : val D = (D[j + 1]?.getD 0 * B + D[j]?.getD 0) * B ^ j + val (D.take j) := by
  have h1 : val D = val (D.take (j + 1 + 1)) := by rw [List.take_of_length_le (by omega)]
  rw [h1, val_take_succ D (j + 1) (by omega), val_take_succ D j (by omega), Nat.pow_succ, Nat.add_mul]
  generalize B ^ j = P
  generalize D[j + 1]?.getD 0 = a
  generalize D[j]?.getD 0 = b
  grind

theorem top3 (D : List Nat) (j : Nat) (h : D.length = j + 3) :
    val D = ((D[j + 2]?.getD 0 * B + D[j + 1]?.getD 0) * B + D[j]?.getD 0) * B ^ j + val (D.take j) := by
  have h1 : val D = val (D.take (j + 2 + 1)) := by rw [List.take_of_length_le (by omega)]
  rw [h1, val_take_succ D (j + 2) (by omega), val_take_succ D (j + 1) (by omega), val_take_succ D j (by omega), show B ^ (j + 2) = B ^ j * B * B from by rw [Nat.pow_succ, Nat.pow_succ], show B ^ (j + 1) = B ^ j * B from Nat.pow_succ ..]
  clear h1
  generalize B ^ j = P
  generalize D[j + 2]?.getD 0 = a
  generalize D[j + 1]?.getD 0 = b
  generalize D[j]?.getD 0 = c
  grind

/-- The three highest limbs of what remains, the two highest of the divisor, and the limb that is sought. -/
structure Tops (u0 u1 u2 v1 v2 q : Nat) : Prop where
  hu2 : u2 < B
  hv2 : v2 < B
  lo : ∃ u' v' W, u' < W ∧ v' < W ∧ q * ((v1 * B + v2) * W + v') ≤ ((u0 * B + u1) * B + u2) * W + u' ∧ ((u0 * B + u1) * B + u2) * W + u' < (q + 1) * ((v1 * B + v2) * W + v')

theorem Tops.of {D W : List Nat} {j : Nat} (hD : D.length = j + 2) (hW : W.length = j + 3) (okD : Ok D) (okW : Ok W) (hv : 0 < val D) :
    Tops (W[j + 2]?.getD 0) (W[j + 1]?.getD 0) (W[j]?.getD 0) (D[j + 1]?.getD 0) (D[j]?.getD 0) (val W / val D) := by
  refine ⟨okW.get j, okD.get j, val (W.take j), val (D.take j), B ^ j, ?_, ?_, ?_, ?_⟩
  · have := val_lt (okW.take j); rwa [List.length_take, Nat.min_eq_left (by omega)] at this
  · have := val_lt (okD.take j); rwa [List.length_take, Nat.min_eq_left (by omega)] at this
  · rw [← top2 D j hD, ← top3 W j hW]; exact Nat.div_mul_le_self _ _
  · rw [← top2 D j hD, ← top3 W j hW, Nat.mul_comm]
    exact Nat.lt_mul_div_succ _ hv

theorem Tops.init {u0 u1 u2 v1 v2 q g r : Nat} (h : Tops u0 u1 u2 v1 v2 q) (hg : g * v1 + r = u0 * B + u1) (hr : r < v1) : q ≤ g := by
  obtain ⟨u', v', W, hu, hv, h1, _⟩ := h.lo
  exact guess_init v1 v2 v' u0 u1 u2 u' W B g r q hv hu h.hu2 hg hr h1

theorem Tops.lower {u0 u1 u2 v1 v2 q g r : Nat} (h : Tops u0 u1 u2 v1 v2 q) (hg : g * v1 + r = u0 * B + u1) (hbig : r * B + u2 < g * v2) : q < g := by
  obtain ⟨u', v', W, hu, hv, h1, _⟩ := h.lo
  exact guess_lower v1 v2 v' u0 u1 u2 u' W B g r q hu hg hbig h1

theorem fit_of (v1 v2 T u2 g r Bs : Nat) (hg : g * v1 + r = T) (hfit : g * v2 ≤ r * Bs + u2) : g * (v1 * Bs + v2) ≤ T * Bs + u2 := by
  rw [← hg, Nat.mul_add, Nat.add_mul, Nat.mul_assoc]; omega

theorem Tops.done {u0 u1 u2 v1 v2 q g r : Nat} (h : Tops u0 u1 u2 v1 v2 q) (hg : g * v1 + r = u0 * B + u1) (hgB : g < B) (hv1 : 0 < v1) (hfit : g * v2 ≤ r * B + u2) : g ≤ q + 1 := by
  obtain ⟨u', v', W, hu, hv, _, h2⟩ := h.lo
  exact guess_done v1 v2 v' u0 u1 u2 u' W B g q hv (Nat.le_of_lt hgB) hv1 (fit_of v1 v2 _ u2 g r B hg hfit) h2

theorem over_fit (g v2 r u2 Bs : Nat) (hg : g < Bs) (hv2 : v2 < Bs) (hr : Bs ≤ r) : g * v2 ≤ r * Bs + u2 := by
  have h1 : g * v2 ≤ Bs * Bs := Nat.mul_le_mul (by omega) (by omega)
  have h2 : Bs * Bs ≤ r * Bs := Nat.mul_le_mul_right _ hr
  omega

theorem Tops.over {u0 u1 u2 v1 v2 q g r : Nat} (h : Tops u0 u1 u2 v1 v2 q) (hg : g * v1 + r = u0 * B + u1) (hgB : g < B) (hv1 : 0 < v1) (hr : B ≤ r) : g ≤ q + 1 :=
  h.done hg hgB hv1 (over_fit g v2 r u2 B hgB h.hv2 hr)

theorem Tops.full {u0 u1 u2 v1 v2 q : Nat} (h : Tops u0 u1 u2 v1 v2 q) (hu0 : v1 ≤ u0) (hv1 : B ≤ 2 * v1) : B - 1 ≤ q + 1 := by
  obtain ⟨u', v', W, hu, hv, _, h2⟩ := h.lo
  exact guess_full v1 v2 v' u0 u1 u2 u' W B q hv B_pos h.hv2 hu0 hv1 h2

/-- What guessLimb tells: the limb q, or one more. -/
def GuessPost (w : World) (q : Nat) (e : Ending) (w' : World) : Prop := ∃ g k, e = .returned (u g) ∧ q ≤ g ∧ g ≤ q + 1 ∧ g < B ∧ w' = w.drewN k

theorem drewA (w : World) (a b c : Nat) : (w.drewN (a + b)).drewN c = w.drewN (a + (b + c)) := by rw [drew2, Nat.add_assoc]

theorem next_eq {g v1 r T : Nat} (h : g * v1 + r = T) (hg : 1 ≤ g) : (g - 1) * v1 + (r + v1) = T := by
  rw [← h]
  have : g * v1 = (g - 1) * v1 + v1 := by rw [← Nat.succ_mul]; congr 1; omega
  omega

theorem guessLimb_any (rb ro rc n n1 j N : Nat) (db dof : Nat) (dc : Nat) (u0 u1 u2 v1 v2 q : Nat) (w : World) (e1 : n1 + 1 = n) (e2 : j + 2 = n) (e3 : N = n + 1)
    (c0 : w.cell? ⟨rb, ro + n, none⟩ = some (u u0)) (c1 : w.cell? ⟨rb, ro + n1, none⟩ = some (u u1)) (c2 : w.cell? ⟨rb, ro + j, none⟩ = some (u u2))
    (d1 : w.cell? ⟨db, dof + n1, none⟩ = some (u v1)) (d2 : w.cell? ⟨db, dof + j, none⟩ = some (u v2))
    (hT : Tops u0 u1 u2 v1 v2 q) (h1 : u1 < B) (hv1B : v1 < B) (hnorm : B ≤ 2 * v1) (hq : q < B) (hj : (n : Int) ≤ 1073741827) :
    Calls Tryz.prog 181 #[.slice (some ⟨rb, ro, none⟩) N rc, .slice (some ⟨db, dof, none⟩) n dc] w (GuessPost w q) := by
  have HT := Lib.hid hT
  have hu2 := hT.hu2
  have hv2 := hT.hv2
  clear hT
  have hj0 : (0 : Int) ≤ (j : Int) := by omega
  have hj1 : (0 : Int) ≤ (n1 : Int) := by omega
  have hj2 : (0 : Int) ≤ (n : Int) := by omega
  have s1 : ((n : Nat) : Int) - 1 = ((n1 : Nat) : Int) := by omega
  have s2 : ((n : Nat) : Int) - 2 = ((j : Nat) : Int) := by omega
  have b1 : (n : Int) < (N : Int) := by omega
  have b2 : (n1 : Int) < (N : Int) := by omega
  have b3 : (j : Int) < (N : Int) := by omega
  have b4 : (n1 : Int) < (n : Int) := by omega
  have b5 : (j : Int) < (n : Int) := by omega
  clear e1 e2 e3
  by_cases hfull : v1 ≤ u0
  · have hge : (v1 : Int) ≤ (u0 : Int) := by omega
    go_enter Tryz.func181, Tryz.ntmps181
    go_wp2_with fail
    go_quiet (fail)
    go_wp2_with fail
    go_ret
    refine ⟨B - 1, _, ?_, ?_, HT.out.full hfull hnorm, by have := B_pos; omega, rfl⟩
    · show Ending.returned (.int .u64 18446744073709551615) = _
      congr 2
    · omega
  · go_enter Tryz.func181, Tryz.ntmps181
    go_wp2_with fail
    go_quiet (fail)
    go_wp2_with fail
    go_quiet ((go_at_call 177; go_must (refine (div64_all u0 u1 v1 (by omega) h1 hv1B _).mono ?_); rintro e w' ⟨rfl, m, rfl⟩; exact ⟨rfl, _, drewA _ _ _ _⟩))
    have hg0 : quo2 u0 u1 v1 * v1 + rem2 u0 u1 v1 = u0 * B + u1 := by unfold quo2 rem2; rw [Nat.mul_comm]; exact Nat.div_add_mod _ _
    have hr0 : rem2 u0 u1 v1 < v1 := Nat.mod_lt _ (by omega)
    have hq0 := HT.out.init hg0 hr0
    have hgB0 : quo2 u0 u1 v1 < B := by
      refine Nat.div_lt_of_lt_mul ?_
      have : (u0 + 1) * B ≤ v1 * B := Nat.mul_le_mul_right _ (by omega)
      rw [Nat.add_mul] at this
      omega
    go_wp2_with fail
    go_loopw [8, 9] (fun s8 s9 wr => ∃ g r k : Nat, s8 = u g ∧ s9 = u r ∧ wr = w.drewN k ∧ Hid (g * v1 + r = u0 * B + u1 ∧ q ≤ g ∧ g < B ∧ r < B)) (fun s8 _ _ => (intOf s8).toNat)
    case atStart => exact ⟨_, _, _, rfl, rfl, drew2 _ _ _, hg0, hq0, hgB0, Nat.lt_trans hr0 hv1B⟩
    case round =>
      clear hg0 hr0 hq0 hgB0
      obtain ⟨g, r, k, rfl, rfl, rfl, hG⟩ := hrel
      have hgB : g < B := hG.out.2.2.1
      have hP := Lib.hid (prod_eq g v2)
      have hplo : prodLo g v2 < B := prodLo_lt g v2
      generalize hhi : prodHi g v2 = hi at *
      generalize hlo : prodLo g v2 = lo at *
      have hcall : ∀ w, Calls Tryz.prog 139 #[u g, u v2] w fun e w' => e = .returned (.tuple #[u hi, u lo]) ∧ w = w' := fun w => by
        rw [← hhi, ← hlo]; exact mul64 g v2 hgB hv2 w
      have HC := Lib.hid hcall
      clear hcall hhi hlo
      by_cases hfit : hi < r ∨ (hi = r ∧ lo ≤ u2)
      · have hdone : g ≤ q + 1 := by
          refine HT.out.done hG.out.1 hgB (by omega) ?_
          rw [← hP.out, Nat.mul_comm B hi]
          rcases hfit with h | ⟨h, h'⟩
          · have : (hi + 1) * B ≤ r * B := Nat.mul_le_mul_right _ h
            rw [Nat.add_mul] at this
            omega
          · subst h; omega
        have HD := Lib.hid hdone
        clear hdone
        by_cases hlt : hi < r
        · clear hfit
          go_wp2_with (go_at_call 139; refine (HC.out _).mono ?_; rintro e w' ⟨rfl, rfl⟩)
          go_ret
          exact ⟨g, k, rfl, hG.out.2.1, HD.out, hgB, rfl⟩
        · obtain ⟨rfl, hle⟩ : hi = r ∧ lo ≤ u2 := hfit.resolve_left hlt
          have hb : (((hi : Nat) : Int) == ((hi : Nat) : Int)) = true := by simp
          clear hfit
          go_wp2_with (go_at_call 139; refine (HC.out _).mono ?_; rintro e w' ⟨rfl, rfl⟩)
          go_ret
          exact ⟨g, k, rfl, hG.out.2.1, HD.out, hgB, rfl⟩
      · have hbig : r * B + u2 < g * v2 := by
          rw [← hP.out, Nat.mul_comm B hi]
          rcases Nat.lt_trichotomy hi r with h | h | h
          · exact absurd (.inl h) hfit
          · subst h
            have : ¬ lo ≤ u2 := fun h' => hfit (.inr ⟨rfl, h'⟩)
            omega
          · have : (r + 1) * B ≤ hi * B := Nat.mul_le_mul_right _ h
            rw [Nat.add_mul] at this
            omega
        have hql := HT.out.lower hG.out.1 hbig
        have hg1 : (1 : Int) ≤ (g : Int) := by omega
        have hnx := Lib.hid (next_eq hG.out.1 (show 1 ≤ g by omega))
        have hsum := Lib.hid (sum_eq r v1)
        have hn1 : ¬ hi < r := fun h => hfit (.inl h)
        have hslo := sumLo_lt r v1
        obtain ⟨p, hp⟩ : ∃ p, p = g - 1 := ⟨_, rfl⟩
        have hwr : IntKind.u64.wrap ((g : Int) - 1) = (p : Int) := by
          rw [hp, show ((g : Int) - 1) = ((g - 1 : Nat) : Int) from by omega, wrap_nat (by omega)]
        rw [← hp] at hnx
        have hqp : q ≤ p := by omega
        have hpB : p < B := by omega
        have HP2 := Lib.hid hp
        clear hbig hql hp
        by_cases hov : sumHi r v1 = 0
        · have hob : (((sumHi r v1 : Nat) : Int) != 0) = false := by rw [hov]; rfl
          have HOV := Lib.hid hov
          clear hov
          by_cases heq : hi = r
          · have hb : (((hi : Nat) : Int) == ((r : Nat) : Int)) = true := by rw [heq]; simp
            have hle : ¬ lo ≤ u2 := fun h' => hfit (.inr ⟨heq, h'⟩)
            clear hfit heq
            go_wp2_with (go_at_call 139; refine (HC.out _).mono ?_; rintro e w' ⟨rfl, rfl⟩)
            go_roundw
            case rel => exact ⟨p, _, k, rfl, rfl, rfl, by have h1 := hnx.out; have h2 := hsum.out; have h3 := HOV.out; rw [h3, Nat.mul_zero, Nat.add_zero] at h2; rw [h2]; exact h1, hqp, hpB, hslo⟩
            case measure => simp [intOf]; have := HP2.out; omega
          · have hb : (((hi : Nat) : Int) == ((r : Nat) : Int)) = false := by rw [beq_eq_false_iff_ne]; omega
            clear hfit
            go_wp2_with (go_at_call 139; refine (HC.out _).mono ?_; rintro e w' ⟨rfl, rfl⟩)
            go_roundw
            case rel => exact ⟨p, _, k, rfl, rfl, rfl, by have h1 := hnx.out; have h2 := hsum.out; have h3 := HOV.out; rw [h3, Nat.mul_zero, Nat.add_zero] at h2; rw [h2]; exact h1, hqp, hpB, hslo⟩
            case measure => simp [intOf]; have := HP2.out; omega
        · have hob : (((sumHi r v1 : Nat) : Int) != 0) = true := by rw [bne_iff_ne]; omega
          have hdone : p ≤ q + 1 := by
            refine HT.out.over hnx.out hpB (by omega) ?_
            have h2 := hsum.out
            have h4 : B * 1 ≤ B * sumHi r v1 := Nat.mul_le_mul_left _ (by omega)
            omega
          have HD := Lib.hid hdone
          clear hov hdone
          by_cases heq : hi = r
          · have hb : (((hi : Nat) : Int) == ((r : Nat) : Int)) = true := by rw [heq]; simp
            have hle : ¬ lo ≤ u2 := fun h' => hfit (.inr ⟨heq, h'⟩)
            clear hfit heq
            go_wp2_with (go_at_call 139; refine (HC.out _).mono ?_; rintro e w' ⟨rfl, rfl⟩)
            go_ret
            exact ⟨p, k, rfl, hqp, HD.out, hpB, rfl⟩
          · have hb : (((hi : Nat) : Int) == ((r : Nat) : Int)) = false := by rw [beq_eq_false_iff_ne]; omega
            clear hfit
            go_wp2_with (go_at_call 139; refine (HC.out _).mono ?_; rintro e w' ⟨rfl, rfl⟩)
            go_ret
            exact ⟨p, k, rfl, hqp, HD.out, hpB, rfl⟩

end Go.Proofs.YtojploidgagmgaaGreatDoor
