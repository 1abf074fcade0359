/- Package exact, part 1: what its functions answer, as laws on the numbers that their values stand for (Math Base Sym Inv Run Seg ClsB Limbs Take Trim Clone One Sum Minus Diff Lehmer Foresee Shift Knuth). -/
import Derived.WalkKit
import Derived.WalkSpells
import Derived.WalkLawsBesides
import Derived.Deep.QuietTactic
import Derived.BigQuiet
import Derived.Deep.RegionHeld3
import Derived.Deep.RegionWith
import Derived.Deep.DeepCutAuto
import Derived.Deep.CutBlock
import Derived.Deep.DeepFit
import Derived.IntWalk
import Derived.Lib.Hide
import Derived.Orders
import Derived.Scope
import Derived.KernelRfl
import Derived.Shelf.Abstract
import Derived.Great.BuildSlice
import Derived.Test.YtccabfblgjcboaaGreatDoorChecked
import Derived.Test.YtccabfblgjcboaaGreatDoorShelf
import Derived.Shelf.Spec.BitsCarry
import Derived.Laws.CopyOwn
import Derived.Laws.MathBits
set_option linter.unusedVariables false
set_option linter.unusedSimpArgs false

namespace Go.Proofs.YtccabfblgjcboaaGreatDoor.Lim
def B : Nat := 18446744073709551616
theorem B_pos : 0 < B := by decide
def val : List Nat → Nat
  | [] => 0
  | x :: xs => x + B * val xs
def Ok (l : List Nat) : Prop := ∀ x ∈ l, x < B
theorem Ok.nil : Ok [] := by intro x h; cases h
theorem Ok.cons {x : Nat} {l : List Nat} (hx : x < B) (h : Ok l) : Ok (x :: l) := by
  intro y hy; rcases List.mem_cons.1 hy with rfl | hy
  · exact hx
  · exact h y hy
theorem Ok.head {x : Nat} {l : List Nat} (h : Ok (x :: l)) : x < B := h x (by simp)
theorem Ok.tail {x : Nat} {l : List Nat} (h : Ok (x :: l)) : Ok l := fun y hy => h y (by simp [hy])
theorem Ok.append {l m : List Nat} (h : Ok l) (h' : Ok m) : Ok (l ++ m) := by
  intro x hx; rcases List.mem_append.1 hx with hx | hx
  · exact h x hx
  · exact h' x hx
theorem Ok.take {l : List Nat} (h : Ok l) (k : Nat) : Ok (l.take k) := fun x hx => h x (List.mem_of_mem_take hx)
theorem Ok.drop {l : List Nat} (h : Ok l) (k : Nat) : Ok (l.drop k) := fun x hx => h x (List.mem_of_mem_drop hx)
theorem Ok.set {l : List Nat} (h : Ok l) (k v : Nat) (hv : v < B) : Ok (l.set k v) := by
  intro x hx; rcases List.mem_or_eq_of_mem_set hx with hx | hx
  · exact h x hx
  · rw [hx]; exact hv
theorem Ok.replicate (n : Nat) : Ok (List.replicate n 0) := by
  intro x hx; rw [(List.mem_replicate.1 hx).2]; exact B_pos
theorem Ok.get {l : List Nat} (h : Ok l) (k : Nat) : l[k]?.getD 0 < B := by
  rcases Nat.lt_or_ge k l.length with hk | hk
  · rw [List.getElem?_eq_getElem hk]; exact h _ (List.getElem_mem hk)
  · rw [List.getElem?_eq_none hk]; exact B_pos
theorem val_nil : val [] = 0 := rfl
theorem val_cons (x : Nat) (l : List Nat) : val (x :: l) = x + B * val l := rfl
theorem val_append (l m : List Nat) : val (l ++ m) = val l + B ^ l.length * val m := by
  induction l with
  | nil => simp [val]
  | cons x l ih => simp only [List.cons_append, val, ih, List.length_cons, Nat.pow_succ]; grind
theorem val_lt {l : List Nat} (h : Ok l) : val l < B ^ l.length := by
  induction l with
  | nil => simp [val]
  | cons x l ih =>
    have h1 := ih h.tail
    have h2 := h.head
    simp only [val, List.length_cons, Nat.pow_succ]
    have : B * (val l + 1) ≤ B * B ^ l.length := Nat.mul_le_mul_left _ h1
    rw [Nat.mul_comm (B ^ l.length) B]
    rw [Nat.mul_add] at this
    omega
theorem val_replicate (n : Nat) : val (List.replicate n 0) = 0 := by
  induction n with
  | zero => rfl
  | succ n ih => simp [List.replicate_succ, val, ih]
theorem val_take_drop (l : List Nat) (k : Nat) (h : k ≤ l.length) : val l = val (l.take k) + B ^ k * val (l.drop k) := by
  conv => lhs; rw [← List.take_append_drop k l, val_append]
  rw [List.length_take, Nat.min_eq_left h]
theorem take_succ_get (l : List Nat) (k : Nat) (h : k < l.length) : l.take (k + 1) = l.take k ++ [l[k]?.getD 0] := by
  rw [List.take_succ_eq_append_getElem h, List.getElem?_eq_getElem h]; rfl
theorem val_take_succ (l : List Nat) (k : Nat) (h : k < l.length) : val (l.take (k + 1)) = val (l.take k) + B ^ k * l[k]?.getD 0 := by
  rw [take_succ_get l k h, val_append, List.length_take, Nat.min_eq_left (by omega)]
  simp [val]
theorem val_set (l : List Nat) (k v : Nat) (h : k < l.length) : val (l.set k v) + B ^ k * l[k]?.getD 0 = val l + B ^ k * v := by
  induction l generalizing k with
  | nil => simp at h
  | cons x l ih =>
    cases k with
    | zero => simp [val]; omega
    | succ k =>
      have h1 := ih k (by simpa using h)
      simp only [List.set_cons_succ, val, List.getElem?_cons_succ, Nat.pow_succ]
      grind
theorem val_eq_of_lt {n a b c d : Nat} (h : a + n * b = c + n * d) (ha : a < n) (hc : c < n) : a = c ∧ b = d := by
  have h1 : (a + n * b) % n = a := by rw [Nat.add_mul_mod_self_left, Nat.mod_eq_of_lt ha]
  have h2 : (c + n * d) % n = c := by rw [Nat.add_mul_mod_self_left, Nat.mod_eq_of_lt hc]
  have : a = c := by rw [← h1, ← h2, h]
  subst this
  refine ⟨rfl, ?_⟩
  have : n * b = n * d := by omega
  exact Nat.eq_of_mul_eq_mul_left (by omega) this
def Trim (l : List Nat) : Prop := ∀ h : l ≠ [], l.getLast h ≠ 0
theorem val_pos_of_trim {l : List Nat} (h : Trim l) (hn : l ≠ []) : B ^ (l.length - 1) ≤ val l := by
  have h1 : l = l.dropLast ++ [l.getLast hn] := (List.dropLast_concat_getLast hn).symm
  have h2 := h hn
  rw [h1, val_append]
  simp only [val, List.length_append, List.length_dropLast, List.length_cons, List.length_nil]
  have : B ^ (l.length - 1) * 1 ≤ B ^ (l.length - 1) * (l.getLast hn + B * 0) := Nat.mul_le_mul_left _ (by omega)
  simp only [Nat.add_sub_cancel, Nat.zero_add]
  omega
theorem val_eq_zero {l : List Nat} (h : Trim l) : val l = 0 ↔ l = [] := by
  constructor
  · intro hv
    rcases l with _ | ⟨x, l⟩
    · rfl
    · have := val_pos_of_trim h (by simp)
      have : 0 < B ^ ((x :: l).length - 1) := Nat.pow_pos B_pos
      omega
  · rintro rfl; rfl
theorem length_le_of_val_le {l m : List Nat} (hl : Trim l) (hm : Ok m) (h : val l ≤ val m) : l.length ≤ m.length := by
  rcases l with _ | ⟨x, l⟩
  · simp
  · have h1 := val_pos_of_trim hl (by simp)
    have h2 := val_lt hm
    have h3 : B ^ ((x :: l).length - 1) < B ^ m.length := by omega
    have := (Nat.pow_lt_pow_iff_right (show 1 < B by decide)).1 h3
    simp at this ⊢
    omega
end Go.Proofs.YtccabfblgjcboaaGreatDoor.Lim

namespace Go.Proofs.YtccabfblgjcboaaGreatDoor
open Go Go.RowKit Lim
abbrev u (n : Nat) : Value := .int .u64 (n : Int)
def Blk (w : World) (b : Nat) (L : List Nat) : Prop := ∃ T : List Value, w.heap[b]? = some (.cells (L.map u ++ T).toArray 23 (0, 0))
def Row (w : World) (b off : Nat) (xs : List Nat) : Prop := ∀ i, i < xs.length → w.cell? ⟨b, off + i, none⟩ = some (u (xs[i]?.getD 0))
structure Only (b : Nat) (w w' : World) : Prop where
  os : w'.os = w.os
  tape : w'.tape = w.tape
  output : w'.output = w.output
  size : w'.heap.size = w.heap.size
  block : ∀ k, k ≠ b → w'.heap[k]? = w.heap[k]?
theorem Only.refl (b : Nat) (w : World) : Only b w w := ⟨rfl, rfl, rfl, rfl, fun _ _ => rfl⟩
theorem Only.trans {b : Nat} {w w' w'' : World} (h : Only b w w') (k : Only b w' w'') : Only b w w'' :=
  ⟨k.os.trans h.os, k.tape.trans h.tape, k.output.trans h.output, k.size.trans h.size, fun i hi => (k.block i hi).trans (h.block i hi)⟩
theorem Only.drew {b : Nat} {w w' : World} (h : Only b w w') : Only b w w'.drew := ⟨h.os, h.tape, h.output, h.size, h.block⟩
theorem Only.drewN {b : Nat} {w w' : World} (h : Only b w w') (n : Nat) : Only b w (w'.drewN n) := ⟨h.os, h.tape, h.output, h.size, h.block⟩
theorem Only.set {b : Nat} {w w' : World} (h : Only b w w') (o : Nat) (v : Value) : Only b w (w'.setCell ⟨b, o, none⟩ v) :=
  h.trans ⟨rfl, rfl, rfl, by simp [World.setCell], fun k hk => Below.heap_setCell _ _ _ _ hk⟩
theorem Only.below {b B : Nat} {w w' : World} (h : Only b w w') (hB : B ≤ b) : Below B w w' :=
  ⟨h.os, h.tape, h.output, by rw [h.size]; exact Nat.le_refl _, fun k hk => h.block k (by omega)⟩
theorem Only.cell {b : Nat} {w w' : World} (h : Only b w w') {p : Addr} (hp : p.block ≠ b) : w'.cell? p = w.cell? p := World.cell?_of_block (w := w) (h.block p.block hp)
theorem Only.row {b c off : Nat} {xs : List Nat} {w w' : World} (h : Only b w w') (hc : c ≠ b) (hr : Row w c off xs) : Row w' c off xs :=
  fun i hi => (h.cell (p := ⟨c, off + i, none⟩) hc).trans (hr i hi)
theorem bdrewN {B n : Nat} {a w : World} (h : Below B a w) : Below B a (w.drewN n) := ⟨h.os, h.tape, h.output, h.size, h.block⟩
theorem drew2 (w : World) (a b : Nat) : (w.drewN a).drewN b = w.drewN (a + b) := World.drewN_drewN ..
theorem drew3 (w : World) (a b c : Nat) : ((w.drewN a).drewN b).drewN c = w.drewN (a + b + c) := by rw [drew2, drew2, Nat.add_assoc]
theorem Blk.lt {w : World} {b : Nat} {L : List Nat} (h : Blk w b L) : b < w.heap.size := let ⟨_, h⟩ := h; (Array.getElem?_eq_some_iff.1 h).1
theorem Blk.cell {w : World} {b : Nat} {L : List Nat} (h : Blk w b L) (i : Nat) (hi : i < L.length) : w.cell? ⟨b, i, none⟩ = some (u (L[i]?.getD 0)) := by
  obtain ⟨T, h⟩ := h
  simp only [World.cell?, h]
  simp [hi, List.getElem?_append_left]
theorem Blk.frozen {w : World} {b : Nat} {L : List Nat} (h : Blk w b L) (i : Nat) : w.frozen? ⟨b, i, none⟩ = false := by
  obtain ⟨T, h⟩ := h
  simp only [World.frozen?, h]
  simp
theorem Blk.set {w : World} {b : Nat} {L : List Nat} (h : Blk w b L) (i v : Nat) (hi : i < L.length) : Blk (w.setCell ⟨b, i, none⟩ (u v)) b (L.set i v) := by
  obtain ⟨T, h⟩ := h
  refine ⟨T, ?_⟩
  simp only [World.setCell, Array.getElem?_modify]
  simp [h, List.map_set, List.set_append_left, hi]
theorem Blk.of_block {w w' : World} {b : Nat} {L : List Nat} (h : Blk w b L) (hb : w'.heap[b]? = w.heap[b]?) : Blk w' b L := let ⟨T, h⟩ := h; ⟨T, by rw [hb, h]⟩
theorem Blk.drew {w : World} {b : Nat} {L : List Nat} (h : Blk w b L) : Blk w.drew b L := h
theorem Blk.below {w w' : World} {b B : Nat} {L : List Nat} (h : Blk w b L) (hb : Below B w w') (hB : b < B) : Blk w' b L := h.of_block (hb.block b hB)
theorem Blk.only {w w' : World} {b c : Nat} {L : List Nat} (h : Blk w b L) (hb : Only c w w') (hc : b ≠ c) : Blk w' b L := h.of_block (hb.block b hc)
theorem Blk.row {w : World} {b : Nat} {L : List Nat} (h : Blk w b L) (off n : Nat) (hn : off + n ≤ L.length) : Row w b off ((L.drop off).take n) := by
  intro i hi
  simp only [List.length_take, List.length_drop] at hi
  rw [h.cell (off + i) (by omega)]
  congr 2
  rw [List.getElem?_take, if_pos (by omega), List.getElem?_drop]
theorem Row.below {w w' : World} {b off B : Nat} {xs : List Nat} (h : Row w b off xs) (hb : Below B w w') (hB : b < B) : Row w' b off xs :=
  fun i hi => (hb.cell (p := ⟨b, off + i, none⟩) hB).trans (h i hi)
theorem Row.lt {w : World} {b off : Nat} {xs : List Nat} (h : Row w b off xs) (hn : 0 < xs.length) : b < w.heap.size := World.block_lt_of_cell? w _ (h 0 hn)
def Typed (w : World) (v : Value) : Prop := ∀ a n c, v = .slice (some a) n c → 0 < n → ∃ cs fr, w.heap[a.block]? = some (.cells cs 23 fr)
theorem Typed.below {w w' : World} {B : Nat} {v : Value} (h : Typed w v) (hb : Below B w w') (hB : w.heap.size ≤ B) : Typed w' v := by
  intro a n c e hn
  obtain ⟨cs, fr, hc⟩ := h a n c e hn
  exact ⟨cs, fr, (hb.block a.block (Nat.lt_of_lt_of_le (Array.getElem?_eq_some_iff.1 hc).1 hB)).trans hc⟩
structure Sl (w : World) (v : Value) (xs : List Nat) : Prop where
  form : ∃ ao cap, v = .slice ao xs.length cap ∧ xs.length ≤ cap ∧ cap ≤ maxLen ∧ (0 < xs.length → ∃ b off, ao = some ⟨b, off, none⟩ ∧ Row w b off xs)
  ok : Ok xs
  typ : Typed w v
theorem Sl.below {w w' : World} {B : Nat} {v : Value} {xs : List Nat} (h : Sl w v xs) (hb : Below B w w') (hB : w.heap.size ≤ B) : Sl w' v xs := by
  obtain ⟨⟨ao, cap, hv, h1, h2, h3⟩, hok, ht⟩ := h
  refine ⟨⟨ao, cap, hv, h1, h2, fun hn => ?_⟩, hok, ht.below hb hB⟩
  obtain ⟨b, off, ha, hr⟩ := h3 hn
  exact ⟨b, off, ha, hr.below hb (Nat.lt_of_lt_of_le (hr.lt hn) hB)⟩
theorem Sl.nil (w : World) : Sl w (.slice none 0 0) [] := ⟨⟨none, 0, rfl, Nat.le_refl _, by unfold maxLen; omega, fun h => absurd h (by simp)⟩, Ok.nil, fun a n c e _ => by cases e⟩
theorem Blk.new (w : World) (L : List Nat) : Blk (w.alloc (.cells (L.map u).toArray 23)) w.heap.size L := by
  refine ⟨[], ?_⟩
  show (w.heap.push _)[w.heap.size]? = _
  simp
theorem Blk.of_owned {w : World} {base n : Nat} {v : Value} {xs : List Nat} (h : w.ownsRow base 23 1 v n (xs.map u)) (hv : v ≠ .slice none 0 0) :
    ∃ b cap, v = .slice (some ⟨b, 0, none⟩) n cap ∧ base ≤ b ∧ Blk w b xs ∧ xs.length = n ∧ n ≤ cap ∧ cap ≤ maxLen := by
  obtain ⟨h1, ⟨h2, _⟩ | ⟨g, cap, cur, rfl, hb, hg, hn, hm, hs, ht⟩⟩ := h
  · exact absurd h2 hv
  · refine ⟨g, cap, rfl, hb, ⟨cur.toList.drop (n * 1), ?_⟩, by simpa using h1, hn, hm⟩
    rw [hg, ← ht, List.take_append_drop]
theorem Sl.of_blk {w : World} {b : Nat} {L : List Nat} (h : Blk w b L) (ok : Ok L) (off n cap : Nat) (hn : off + n ≤ L.length) (hc : n ≤ cap) (hm : cap ≤ maxLen) :
    Sl w (.slice (some ⟨b, off, none⟩) n cap) ((L.drop off).take n) := by
  have hl : ((L.drop off).take n).length = n := by rw [List.length_take, List.length_drop]; omega
  refine ⟨⟨some ⟨b, off, none⟩, cap, by rw [hl], by rw [hl]; exact hc, hm, fun _ => ⟨b, off, rfl, h.row off n hn⟩⟩, (ok.drop _).take _, fun a n' c e _ => by
    injection e with e
    injection e with e
    subst e
    obtain ⟨T, hT⟩ := h
    exact ⟨_, _, hT⟩⟩
def IsNat (w : World) (v : Value) (n : Nat) : Prop := ∃ xs, Sl w v xs ∧ Trim xs ∧ val xs = n
theorem IsNat.below {w w' : World} {B n : Nat} {v : Value} (h : IsNat w v n) (hb : Below B w w') (hB : w.heap.size ≤ B) : IsNat w' v n := by
  obtain ⟨xs, h1, h2, h3⟩ := h
  exact ⟨xs, h1.below hb hB, h2, h3⟩
theorem IsNat.len {n : Nat} {xs : List Nat} (h2 : Trim xs) (h3 : val xs = n) {k : Nat} (hk : n < B ^ k) : xs.length ≤ k := by
  rcases xs with _ | ⟨x, xs⟩
  · simp
  · have h1 := val_pos_of_trim h2 (by simp)
    rw [h3] at h1
    have h4 : B ^ ((x :: xs).length - 1) < B ^ k := by omega
    have := (Nat.pow_lt_pow_iff_right (show 1 < B by decide)).1 h4
    simp at this ⊢
    omega
def NatNew (w : World) (n : Nat) (e : Ending) (w' : World) : Prop := ∃ v, e = .returned v ∧ IsNat w' v n ∧ Below w.heap.size w w'
def sumLo (x y : Nat) : Nat := (x + y) % B
def sumHi (x y : Nat) : Nat := (x + y) / B
def difLo (x y : Nat) : Nat := (x + B - y) % B
def difHi (x y : Nat) : Nat := if x < y then 1 else 0
def prodLo (x y : Nat) : Nat := x * y % B
def prodHi (x y : Nat) : Nat := x * y / B
theorem sum_eq (x y : Nat) : sumLo x y + B * sumHi x y = x + y := by unfold sumLo sumHi; have := Nat.div_add_mod (x + y) B; omega
theorem sumLo_lt (x y : Nat) : sumLo x y < B := Nat.mod_lt _ B_pos
theorem sumHi_le {x y : Nat} (hx : x < B) (hy : y < B) : sumHi x y ≤ 1 := by
  unfold sumHi
  have : (x + y) / B < 2 := Nat.div_lt_of_lt_mul (by omega)
  omega
theorem dif_eq {x y : Nat} (hx : x < B) (hy : y < B) : difLo x y + y = x + B * difHi x y := by
  unfold difLo difHi
  split
  · rw [Nat.mod_eq_of_lt (by omega)]; omega
  · rw [show x + B - y = x - y + B from by omega, Nat.add_mod_right, Nat.mod_eq_of_lt (by omega)]; omega
theorem difLo_lt (x y : Nat) : difLo x y < B := Nat.mod_lt _ B_pos
theorem difHi_le (x y : Nat) : difHi x y ≤ 1 := by unfold difHi; split <;> omega
theorem prod_eq (x y : Nat) : prodLo x y + B * prodHi x y = x * y := by unfold prodLo prodHi; have := Nat.div_add_mod (x * y) B; omega
theorem prodLo_lt (x y : Nat) : prodLo x y < B := Nat.mod_lt _ B_pos
theorem wrap_nat {x : Nat} (h : x < B) : IntKind.u64.wrap (x : Int) = (x : Int) := by
  rw [IntKind.wrap_u64]
  unfold B at h
  omega
theorem wrap_add {x y : Nat} (h : x + y < B) : IntKind.u64.wrap ((x : Int) + (y : Int)) = ((x + y : Nat) : Int) := by
  rw [show ((x : Int) + (y : Int)) = ((x + y : Nat) : Int) from by omega, wrap_nat h]
theorem wrap_add3 {x y z : Nat} (h : x + y + z < B) : IntKind.u64.wrap (IntKind.u64.wrap ((x : Int) + (y : Int)) + (z : Int)) = ((x + y + z : Nat) : Int) := by
  rw [wrap_add (x := x) (y := y) (by omega), wrap_add h]
theorem wrap_sub {x y : Nat} (hx : x < B) (h : y ≤ x) : IntKind.u64.wrap ((x : Int) - (y : Int)) = ((x - y : Nat) : Int) := by
  rw [show ((x : Int) - (y : Int)) = ((x - y : Nat) : Int) from by omega, wrap_nat (by omega)]
end Go.Proofs.YtccabfblgjcboaaGreatDoor

namespace Go.Proofs.YtccabfblgjcboaaGreatDoor
open Go Go.RowKit Go.Proofs
namespace Sym
inductive AC where
  | lit (v : Value)
  | sym (s j : Nat)
  | ptr (b o : Nat)
  | clo (f : FuncId) (bs : List Nat)
  | slc (b o n c : Nat)
inductive A1 where
  | one (c : AC)
  | agg (cs : List AC)
inductive AV where
  | val (a : A1)
  | tup (l : List A1)
structure Env where
  ρ : Nat → Option Nat
  ν : Nat → Option (Nat → Value)
structure Ext (e e' : Env) : Prop where
  ρ : ∀ b k, e.ρ b = some k → e'.ρ b = some k
  ν : ∀ s f, e.ν s = some f → e'.ν s = some f
theorem Ext.refl (e : Env) : Ext e e := ⟨fun _ _ h => h, fun _ _ h => h⟩
theorem Ext.trans {a b c : Env} (h : Ext a b) (k : Ext b c) : Ext a c := ⟨fun x y z => k.ρ x y (h.ρ x y z), fun x y z => k.ν x y (h.ν x y z)⟩
def Env.blocks (e : Env) : List Nat → Option (List Nat)
  | [] => some []
  | b :: bs => match e.ρ b, e.blocks bs with
    | some k, some ks => some (k :: ks)
    | _, _ => none
theorem Env.blocks_ext {e e' : Env} (h : Ext e e') : ∀ (bs : List Nat) (ks : List Nat), e.blocks bs = some ks → e'.blocks bs = some ks
  | [], ks, hk => hk
  | b :: bs, ks, hk => by
    unfold Env.blocks at hk ⊢
    cases h1 : e.ρ b with
    | none => simp [h1] at hk
    | some k =>
      cases h2 : e.blocks bs with
      | none => simp [h1, h2] at hk
      | some l =>
        rw [h.ρ b k h1, blocks_ext h bs l h2]
        rw [h1, h2] at hk
        exact hk
def AC.is (e : Env) : AC → Value → Prop
  | .lit v', v => v = v'
  | .sym s j, v => ∃ f, e.ν s = some f ∧ v = f j
  | .ptr b o, v => ∃ k, e.ρ b = some k ∧ v = .pointer (some ⟨k, o, none⟩)
  | .clo f bs, v => ∃ ks, e.blocks bs = some ks ∧ v = .func (.func f) #[] (ks.map (fun k => Value.pointer (some ⟨k, 0, none⟩))).toArray
  | .slc b o n c, v => ∃ k, e.ρ b = some k ∧ v = .slice (some ⟨k, o, none⟩) n c
theorem AC.is.ext {e e' : Env} (h : Ext e e') {c : AC} {v : Value} (hc : c.is e v) : c.is e' v := by
  cases c with
  | lit => exact hc
  | sym s j => obtain ⟨f, h1, h2⟩ := hc; exact ⟨f, h.ν s f h1, h2⟩
  | ptr b o => obtain ⟨k, h1, h2⟩ := hc; exact ⟨k, h.ρ b k h1, h2⟩
  | clo f bs => obtain ⟨k, h1, h2⟩ := hc; exact ⟨k, Env.blocks_ext h bs k h1, h2⟩
  | slc b o n c => obtain ⟨k, h1, h2⟩ := hc; exact ⟨k, h.ρ b k h1, h2⟩
def CsAre (e : Env) : List AC → List Value → Prop
  | [], vs => vs = []
  | c :: cs, vs => ∃ v ws, vs = v :: ws ∧ c.is e v ∧ CsAre e cs ws
theorem CsAre.ext {e e' : Env} (h : Ext e e') : ∀ {cs : List AC} {vs : List Value}, CsAre e cs vs → CsAre e' cs vs
  | [], _, hc => hc
  | c :: cs, _, ⟨v, ws, h1, h2, h3⟩ => ⟨v, ws, h1, h2.ext h, CsAre.ext h h3⟩
theorem CsAre.length {e : Env} : ∀ {cs : List AC} {vs : List Value}, CsAre e cs vs → vs.length = cs.length
  | [], _, hc => by rw [hc]; rfl
  | c :: cs, _, ⟨v, ws, h1, h2, h3⟩ => by rw [h1]; simp [h3.length]
theorem CsAre.get {e : Env} : ∀ {cs : List AC} {vs : List Value}, CsAre e cs vs → ∀ (i : Nat) (c : AC), cs[i]? = some c → ∃ v, vs[i]? = some v ∧ c.is e v
  | [], _, _, i, c, h => by simp at h
  | c :: cs, _, ⟨v, ws, h1, h2, h3⟩, 0, d, h => by
    simp at h; subst h; subst h1; exact ⟨v, rfl, h2⟩
  | c :: cs, _, ⟨v, ws, h1, h2, h3⟩, i + 1, d, h => by
    simp at h; subst h1; simpa using h3.get i d h
theorem CsAre.append {e : Env} : ∀ {cs ds : List AC} {vs ws : List Value}, CsAre e cs vs → CsAre e ds ws → CsAre e (cs ++ ds) (vs ++ ws)
  | [], _, _, _, h, k => by rw [h]; exact k
  | c :: cs, _, _, _, ⟨v, ws, h1, h2, h3⟩, k => ⟨v, _, by rw [h1]; rfl, h2, h3.append k⟩
def A1.is (e : Env) : A1 → Value → Prop
  | .one c, v => c.is e v
  | .agg cs, v => ∃ vs, CsAre e cs vs ∧ v = .agg vs.toArray
theorem A1.is.ext {e e' : Env} (h : Ext e e') {c : A1} {v : Value} (hc : c.is e v) : c.is e' v := by
  cases c with
  | one c => exact AC.is.ext h hc
  | agg cs => obtain ⟨vs, h1, h2⟩ := hc; exact ⟨vs, h1.ext h, h2⟩
def AsAre (e : Env) : List A1 → List Value → Prop
  | [], vs => vs = []
  | c :: cs, vs => ∃ v ws, vs = v :: ws ∧ c.is e v ∧ AsAre e cs ws
theorem AsAre.ext {e e' : Env} (h : Ext e e') : ∀ {cs : List A1} {vs : List Value}, AsAre e cs vs → AsAre e' cs vs
  | [], _, hc => hc
  | c :: cs, _, ⟨v, ws, h1, h2, h3⟩ => ⟨v, ws, h1, h2.ext h, AsAre.ext h h3⟩
theorem AsAre.get {e : Env} : ∀ {cs : List A1} {vs : List Value}, AsAre e cs vs → ∀ (i : Nat) (c : A1), cs[i]? = some c → ∃ v, vs[i]? = some v ∧ c.is e v
  | [], _, _, i, c, h => by simp at h
  | c :: cs, _, ⟨v, ws, h1, h2, h3⟩, 0, d, h => by
    simp at h; subst h; subst h1; exact ⟨v, rfl, h2⟩
  | c :: cs, _, ⟨v, ws, h1, h2, h3⟩, i + 1, d, h => by
    simp at h; subst h1; simpa using h3.get i d h
def AV.is (e : Env) : AV → Value → Prop
  | .val a, v => a.is e v
  | .tup l, v => ∃ vs, AsAre e l vs ∧ v = .tuple vs.toArray
theorem AV.is.ext {e e' : Env} (h : Ext e e') {c : AV} {v : Value} (hc : c.is e v) : c.is e' v := by
  cases c with
  | val c => exact A1.is.ext h hc
  | tup cs => obtain ⟨vs, h1, h2⟩ := hc; exact ⟨vs, h1.ext h, h2⟩
inductive Key where
  | slot (t : Nat)
  | cell (b o : Nat)
  | box (b : Nat)
  | live (s : Nat)
  deriving DecidableEq
def Key.same : Key → Key → Bool
  | .slot a, .slot b => Nat.beq a b
  | .cell a c, .cell b d => match Nat.beq a b with | true => Nat.beq c d | false => false
  | .box a, .box b => Nat.beq a b
  | .live a, .live b => Nat.beq a b
  | _, _ => false
theorem Key.same_iff {a b : Key} : a.same b = true ↔ a = b := by
  cases a <;> cases b <;> simp [Key.same]
  split
  · simp_all
  · rename_i h
    constructor
    · intro h'; cases h'
    · rintro ⟨rfl, _⟩; simp at h
inductive Kv where
  | av (a : AV)
  | ac (c : AC)
  | box (t n : Nat)
  | cls (c : Nat)
structure Stat where
  P : Program
  csz : List Nat
  numc : List Bool
  okT : List Nat
  nt : Nat
structure Ctx extends Stat where
  E : Nat → World → (Nat → Value) → Prop
  w0 : World
def noSl : Value → Bool
  | .slice .. => false
  | _ => true
def boxFull (P : Program) (t n : Nat) : Bool :=
  match P.info? t with
  | some i => Nat.beq n i.size
  | none => false
structure Ctx.Ok (C : Ctx) : Prop where
  below : ∀ c w w' f, Below w.heap.size w w' → C.E c w f → C.E c w' f
  only : ∀ c w w' R f cs t, C.w0.heap.size ≤ R → w.heap[R]? = some (.cells cs t (0, 0)) → t ∈ C.okT → (∀ x, cs[0]? = some x → noSl x = true) → boxFull C.P t cs.size = true → Only R w w' → C.E c w f → C.E c w' f
  num : ∀ c w f, C.numc.getD c false = true → C.E c w f → noSl (f 0) = true
  cell : ∀ c w f j, C.E c w f → j < C.csz.getD c 0 → (f j).oneCell' = true
  mixed : C.P.follows .mixedOrders = true
def holds (C : Ctx) (e : Env) (a : Act) (w : World) : Key → Kv → Prop
  | .slot t, .av x => ∃ v, a.tmps[t]? = some v ∧ x.is e v
  | .cell b o, .ac c => ∃ k cs ty v, e.ρ b = some k ∧ w.heap[k]? = some (.cells cs ty (0, 0)) ∧ cs[o]? = some v ∧ c.is e v
  | .box b, .box ty n => ∃ k cs, e.ρ b = some k ∧ w.heap[k]? = some (.cells cs ty (0, 0)) ∧ cs.size = n
  | .live s, .cls c => ∃ f, e.ν s = some f ∧ C.E c w f
  | _, _ => False
structure Good (C : Ctx) (e : Env) (a : Act) (w : World) : Prop where
  below : Below C.w0.heap.size C.w0 w
  defers : a.defers = []
  size : a.tmps.size = C.nt
  inj : ∀ b b' k, e.ρ b = some k → e.ρ b' = some k → b = b'
  own : ∀ b k, e.ρ b = some k → C.w0.heap.size ≤ k ∧ k < w.heap.size
theorem holds.below {C : Ctx} (hC : C.Ok) {e : Env} {a : Act} {w w' : World} (hg : Good C e a w) (hb : Below w.heap.size w w') {k : Key} {v : Kv} (h : holds C e a w k v) : holds C e a w' k v := by
  cases k <;> cases v <;> try exact h
  · obtain ⟨k, cs, ty, x, h1, h2, h3, h4⟩ := h
    exact ⟨k, cs, ty, x, h1, (hb.block k (hg.own _ _ h1).2).trans h2, h3, h4⟩
  · obtain ⟨k, cs, h1, h2, h3⟩ := h
    exact ⟨k, cs, h1, (hb.block k (hg.own _ _ h1).2).trans h2, h3⟩
  · obtain ⟨f, h1, h2⟩ := h
    exact ⟨f, h1, hC.below _ _ _ _ hb h2⟩
theorem holds.ext {C : Ctx} {e e' : Env} {a : Act} {w : World} (hx : Ext e e') {k : Key} {v : Kv} (h : holds C e a w k v) : holds C e' a w k v := by
  cases k <;> cases v <;> try exact h
  · obtain ⟨x, h1, h2⟩ := h; exact ⟨x, h1, h2.ext hx⟩
  · obtain ⟨k, cs, ty, x, h1, h2, h3, h4⟩ := h
    exact ⟨k, cs, ty, x, hx.ρ _ _ h1, h2, h3, h4.ext hx⟩
  · obtain ⟨k, cs, h1, h2, h3⟩ := h
    exact ⟨k, cs, hx.ρ _ _ h1, h2, h3⟩
  · obtain ⟨f, h1, h2⟩ := h
    exact ⟨f, hx.ν _ _ h1, h2⟩
theorem holds.put {C : Ctx} {e : Env} {a : Act} {w : World} {dst : Option Tmp} {x : Value} {k : Key} {v : Kv} (hk : ∀ d, dst = some d → k ≠ .slot d) (h : holds C e a w k v) : holds C e (a.put dst x) w k v := by
  cases k <;> cases v <;> try exact h
  obtain ⟨y, h1, h2⟩ := h
  refine ⟨y, ?_, h2⟩
  cases dst with
  | none => exact h1
  | some d =>
    rename_i t _
    have : d ≠ t := fun e => hk d rfl (by rw [e])
    simp [Act.put, this, h1]
theorem Good.later {C : Ctx} {e : Env} {a : Act} {w w' : World} (hg : Good C e a w) (hb : Below w.heap.size w w') : Good C e a w' :=
  ⟨hg.below.trans ⟨hb.os, hb.tape, hb.output, hb.size, fun i hi => hb.block i (Nat.lt_of_lt_of_le hi hg.below.size)⟩, hg.defers, hg.size, hg.inj, fun b k h => ⟨(hg.own b k h).1, Nat.lt_of_lt_of_le (hg.own b k h).2 hb.size⟩⟩
theorem put_size (a : Act) (d : Option Tmp) (v : Value) : (a.put d v).tmps.size = a.tmps.size := by cases d <;> simp [Act.put]
theorem put_defers (a : Act) (d : Option Tmp) (v : Value) : (a.put d v).defers = a.defers := by cases d <;> rfl
theorem Good.put {C : Ctx} {e : Env} {a : Act} {w : World} (hg : Good C e a w) (d : Option Tmp) (v : Value) : Good C e (a.put d v) w :=
  ⟨hg.below, (put_defers a d v).trans hg.defers, (put_size a d v).trans hg.size, hg.inj, hg.own⟩
theorem blt_lt {a b : Nat} (h : Nat.blt a b = true) : a < b := by simpa using h
abbrev View := Key → Option Kv
def Knows (C : Ctx) (e : Env) (a : Act) (w : World) (V : View) : Prop := ∀ k v, V k = some v → holds C e a w k v
theorem holds.at {C : Ctx} {e : Env} {a : Act} {w : World} {b o k : Nat} {c : AC} (h : holds C e a w (.cell b o) (.ac c)) (hk : e.ρ b = some k) :
    ∃ v, w.cell? ⟨k, o, none⟩ = some v ∧ c.is e v := by
  obtain ⟨k', cs, ty, v, h1, h2, h3, h4⟩ := h
  rw [hk] at h1
  injection h1 with h1
  subst h1
  exact ⟨v, by simp [World.cell?, h2, h3], h4⟩
def opnd (V : View) : Operand → Option AV
  | .tmp t => match V (.slot t) with
    | some (.av x) => some x
    | _ => none
  | .const (.agg cs) => some (.val (.agg (cs.toList.map .lit)))
  | .const v => some (.val (.one (.lit v)))
  | .global g => some (.val (.one (.lit (.pointer (some ⟨g, 0, none⟩)))))
  | .func f => some (.val (.one (.lit (.func (.func f) #[] #[]))))
theorem lits_are (e : Env) : ∀ (vs : List Value), CsAre e (vs.map .lit) vs
  | [] => rfl
  | v :: vs => ⟨v, vs, rfl, rfl, lits_are e vs⟩
theorem opnd_is {C : Ctx} {e : Env} {a : Act} {w : World} {V : View} (hV : Knows C e a w V) {x : Operand} {av : AV} (h : opnd V x = some av) : av.is e (a.eval x) := by
  unfold opnd at h
  split at h
  · rename_i t
    split at h
    · rename_i x hx
      injection h with h; subst h
      obtain ⟨v, h1, h2⟩ := hV _ _ hx
      rw [Act.eval, Array.getD_eq_getD_getElem?, h1]
      exact h2
    · cases h
  · injection h with h; subst h
    exact ⟨_, lits_are e _, by simp [Act.eval]⟩
  · injection h with h; subst h; exact rfl
  · injection h with h; subst h; exact rfl
  · injection h with h; subst h; exact rfl
def lit? : Option AV → Option Value
  | some (.val (.one (.lit v))) => some v
  | _ => none
theorem lit_is {C : Ctx} {e : Env} {a : Act} {w : World} {V : View} (hV : Knows C e a w V) {x : Operand} {v : Value} (h : lit? (opnd V x) = some v) : a.eval x = v := by
  unfold lit? at h
  split at h
  · rename_i hx
    injection h with h; subst h
    exact opnd_is hV hx
  · cases h
def ptr? : Option AV → Option (Nat × Nat)
  | some (.val (.one (.ptr b o))) => some (b, o)
  | _ => none
theorem ptr_is {C : Ctx} {e : Env} {a : Act} {w : World} {V : View} (hV : Knows C e a w V) {x : Operand} {b o : Nat} (h : ptr? (opnd V x) = some (b, o)) :
    ∃ k, e.ρ b = some k ∧ a.eval x = .pointer (some ⟨k, o, none⟩) := by
  unfold ptr? at h
  split at h
  · rename_i hx
    injection h with h; injection h with h1 h2; subst h1; subst h2
    exact opnd_is hV hx
  · cases h
def ev {α : Type} (P : Program) : Sem α → Option α
  | .pure a => some a
  | .program k => ev P (k P)
  | .mark _ k => ev P k
  | _ => none
theorem ev_run {α : Type} {P : Program} {s : Sem α} {v : α} (h : ev P s = some v) (w : World) : s.run P w = .ok v w := by
  induction s with
  | pure a => simp [ev] at h; subst h; rfl
  | program k ih => exact ih P h
  | mark m k ih => exact ih h
  | _ => simp [ev] at h
def isAggD : TypeDesc → Bool
  | .struct _ => true
  | .array _ _ => true
  | _ => false
theorem run_isAggD {P : Program} {t : TypeId} {d : TypeDesc} (h : P.underlying t = some d) (w : World) : (isAgg t).run P w = .ok (isAggD d) w := by
  cases d <;> simp [isAgg, underlying, h, isAggD]
theorem run_size {P : Program} {t : TypeId} {i : TypeInfo} (h : P.info? t = some i) (w : World) : (sizeOf t).run P w = .ok i.size w := by
  simp [sizeOf, typeInfo, h]
def cellsFrom (V : View) (b : Nat) : Nat → Nat → Option (List AC)
  | _, 0 => some []
  | o, n + 1 => match V (.cell b o) with
    | some (.ac c) => match cellsFrom V b (o + 1) n with
      | some l => some (c :: l)
      | none => none
    | _ => none
theorem cellsFrom_are {C : Ctx} {e : Env} {a : Act} {w : World} {V : View} (hV : Knows C e a w V) {b k : Nat} (hk : e.ρ b = some k) : ∀ (n o : Nat) (cs : List AC), cellsFrom V b o n = some cs →
    cs.length = n ∧ ∃ vs, CsAre e cs vs ∧ ∀ j v, vs[j]? = some v → w.cell? ⟨k, o + j, none⟩ = some v
  | 0, o, cs, h => by
    simp [cellsFrom] at h; subst h
    exact ⟨rfl, [], rfl, fun j v h => by simp at h⟩
  | n + 1, o, cs, h => by
    unfold cellsFrom at h
    split at h
    · rename_i c hc
      split at h
      · rename_i l hl
        injection h with h; subst h
        obtain ⟨h1, vs, h2, h3⟩ := cellsFrom_are hV hk n (o + 1) l hl
        obtain ⟨v, h4, h5⟩ := (hV _ _ hc).at hk
        refine ⟨by simp [h1], v :: vs, ⟨v, vs, rfl, h5, h2⟩, fun j x hx => ?_⟩
        cases j with
        | zero => simp at hx; subst hx; exact h4
        | succ j =>
          have := h3 j x (by simpa using hx)
          rw [show o + 1 + j = o + (j + 1) by omega] at this
          exact this
      · cases h
    · cases h
def loadA (P : Program) (V : View) (t : TypeId) (b o : Nat) : Option A1 :=
  match P.underlying t with
  | none => none
  | some d => match isAggD d with
    | true => match P.info? t with
      | some i => match cellsFrom V b o i.size with
        | some cs => some (.agg cs)
        | none => none
      | none => none
    | false => match V (.cell b o) with
      | some (.ac c) => some (.one c)
      | _ => none
theorem addr_add (k o n : Nat) : (⟨k, o, none⟩ : Addr).add n = ⟨k, o + n, none⟩ := by
  unfold Addr.add
  split
  · subst n; rfl
  · rfl
theorem loadA_run {C : Ctx} {e : Env} {a : Act} {w : World} {V : View} (hV : Knows C e a w V) {b k o : Nat} (hk : e.ρ b = some k) {t : TypeId} {x : A1} (h : loadA C.P V t b o = some x) :
    ∃ v, (loadVar t ⟨k, o, none⟩).run C.P w = .ok v w ∧ x.is e v := by
  unfold loadA at h
  split at h
  · cases h
  · rename_i d hd
    split at h
    · rename_i ha
      split at h
      · rename_i i hi
        split at h
        · rename_i cs hcs
          injection h with h; subst h
          obtain ⟨h1, vs, h2, h3⟩ := cellsFrom_are hV hk _ _ _ hcs
          refine ⟨.agg vs.toArray, ?_, vs, h2, rfl⟩
          have hl : vs.length = i.size := h2.length.trans h1
          have := run_loadCells_list (P := C.P) (w := w) ⟨k, o, none⟩ vs (fun j v hj => by rw [addr_add]; exact h3 j v hj)
          rw [hl] at this
          simp [loadVar, run_isAggD hd, ha, run_size hi, this]
        · cases h
      · cases h
    · rename_i ha
      split at h
      · rename_i c hc
        injection h with h; subst h
        obtain ⟨v, h4, h5⟩ := (hV _ _ hc).at hk
        refine ⟨v, ?_, h5⟩
        simp [loadVar, run_isAggD hd, ha, h4]
      · cases h
abbrev Ws := List (Key × Kv)
def find (k : Key) : Ws → Option Kv
  | [] => none
  | (k', v) :: l => match k'.same k with
    | true => some v
    | false => find k l
theorem find_none {k : Key} : ∀ {l : Ws}, find k l = none → ∀ v, (k, v) ∉ l
  | [], _, v, hm => by simp at hm
  | (k', v') :: l, h, v, hm => by
    unfold find at h
    split at h
    · cases h
    · rename_i hs
      simp only [List.mem_cons, Prod.mk.injEq] at hm
      rcases hm with ⟨h1, _⟩ | hm
      · subst h1
        have := Key.same_iff.2 (rfl : k = k)
        rw [hs] at this
        cases this
      · exact find_none h v hm
theorem find_mem {k : Key} {v : Kv} : ∀ {l : Ws}, find k l = some v → (k, v) ∈ l
  | [], h => by simp [find] at h
  | (k', v') :: l, h => by
    unfold find at h
    split at h
    · rename_i hs
      injection h with h; subst h
      rw [Key.same_iff.1 hs]
      simp
    · exact List.mem_cons_of_mem _ (find_mem h)
theorem find_append_none {k : Key} : ∀ {l m : Ws}, find k (l ++ m) = none → find k l = none ∧ find k m = none
  | [], m, h => ⟨rfl, h⟩
  | (k', v') :: l, m, h => by
    simp only [List.cons_append, find] at h ⊢
    split at h
    · cases h
    · exact find_append_none h
def Post (C : Ctx) (e : Env) (a : Act) (w : World) (id : Nat) (ws : Ws) (K : Act → World → Prop) : Prop :=
  ∀ e' a' w', Ext e e' → (∀ b k, e'.ρ b = some k → e.ρ b = some k ∨ b = id) → (∀ s f, e'.ν s = some f → e.ν s = some f ∨ s / 8 = id) → Good C e' a' w' →
    (∀ k v, (k, v) ∈ ws → holds C e' a' w' k v) → (∀ k v, holds C e a w k v → find k ws = none → holds C e' a' w' k v) → K a' w'
def undefA : AV := .val (.one (.lit undef))
def putW (nt : Nat) (dst : Option Tmp) (x : AV) : Option Ws :=
  match dst with
  | none => some []
  | some d => match Nat.blt d nt with
    | true => some [(.slot d, .av x)]
    | false => none
theorem putW_none {nt : Nat} {dst : Option Tmp} {x : AV} {ws : Ws} (h : putW nt dst x = some ws) {k : Key} (hk : find k ws = none) : ∀ d, dst = some d → k ≠ .slot d := by
  intro d hd e
  subst hd; subst e
  unfold putW at h
  simp only at h
  split at h
  · injection h with h; subst h
    exact find_none hk (.av x) (by simp)
  · cases h
theorem putW_holds {C : Ctx} {e : Env} {a : Act} {w : World} {dst : Option Tmp} {x : AV} {v : Value} {ws : Ws} (hg : Good C e a w) (h : putW C.nt dst x = some ws) (hx : x.is e v) :
    ∀ k y, (k, y) ∈ ws → holds C e (a.put dst v) w k y := by
  intro k y hm
  unfold putW at h
  split at h
  · injection h with h; subst h; simp at hm
  · rename_i d
    split at h
    · rename_i hd
      injection h with h; subst h
      simp only [List.mem_cons, Prod.mk.injEq, List.not_mem_nil, or_false] at hm
      obtain ⟨rfl, rfl⟩ := hm
      refine ⟨v, ?_, hx⟩
      have : d < a.tmps.size := by rw [hg.size]; exact blt_lt hd
      simp [Act.put, this]
    · cases h
section
variable {C : Ctx} {e : Env} {a : Act} {w : World} {id : Nat} {ws : Ws} {K : Act → World → Prop}
theorem Post.value (h : Post C e a w id ws K) (hg : Good C e a w) {dst : Option Tmp} {x : AV} {v : Value} (hp : putW C.nt dst x = some ws) (hx : x.is e v) : K (a.put dst v) w :=
  h e _ w (Ext.refl e) (fun _ _ => .inl) (fun _ _ => .inl) (hg.put dst v) (putW_holds hg hp hx) (fun k _ hk hn => hk.put (putW_none hp hn))
def cellsW (b : Nat) : Nat → List AC → Ws
  | _, [] => []
  | o, c :: cs => (.cell b o, .ac c) :: cellsW b (o + 1) cs
theorem cellsW_mem {b : Nat} {k : Key} {v : Kv} : ∀ {cs : List AC} {o : Nat}, (k, v) ∈ cellsW b o cs → ∃ j c, cs[j]? = some c ∧ k = .cell b (o + j) ∧ v = .ac c
  | [], o, h => by simp [cellsW] at h
  | c :: cs, o, h => by
    simp only [cellsW, List.mem_cons, Prod.mk.injEq] at h
    rcases h with ⟨rfl, rfl⟩ | h
    · exact ⟨0, c, rfl, rfl, rfl⟩
    · obtain ⟨j, d, h1, h2, h3⟩ := cellsW_mem h
      exact ⟨j + 1, d, by simpa using h1, by rw [h2]; congr 1; omega, h3⟩
theorem cellsW_find {b o' : Nat} : ∀ {cs : List AC} {o : Nat}, find (.cell b o') (cellsW b o cs) = none → o' < o ∨ o + cs.length ≤ o'
  | [], o, _ => by simp; omega
  | c :: cs, o, h => by
    simp only [cellsW, find] at h
    split at h
    · cases h
    · rename_i hs
      have h1 := cellsW_find h
      have h2 : ¬ o = o' := by
        rintro rfl
        have := Key.same_iff.2 (rfl : Key.cell b o = .cell b o)
        rw [hs] at this
        cases this
      simp only [List.length_cons]
      omega
def newBoxV (nt id : Nat) (dst : Option Tmp) (t : Nat) (cs : List AC) (p : AC) : Option Ws :=
  match putW nt dst (.val (.one p)) with
  | some l => some (l ++ (.box id, .box t cs.length) :: cellsW id 0 cs)
  | none => none
def newBoxW (nt id : Nat) (dst : Option Tmp) (t : Nat) (cs : List AC) : Option Ws := newBoxV nt id dst t cs (.ptr id 0)
theorem CsAre.atA {e : Env} {cs : List AC} {vs : List Value} (h : CsAre e cs vs) {i : Nat} {c : AC} (hc : cs[i]? = some c) : ∃ v, vs.toArray[i]? = some v ∧ c.is e v := by
  obtain ⟨v, h1, h2⟩ := h.get i c hc
  exact ⟨v, by simpa using h1, h2⟩
theorem Post.newV (h : Post C e a w id ws K) (hC : C.Ok) (hg : Good C e a w) (hf : e.ρ id = none) {dst : Option Tmp} {t : Nat} {cs : List AC} {vs : List Value} {p : AC} {pv : Value} (hpv : ∀ e' : Env, e'.ρ id = some w.heap.size → p.is e' pv) (hp : newBoxV C.nt id dst t cs p = some ws) (hx : CsAre e cs vs) :
    K (a.put dst pv) { w with heap := w.heap.push (.cells vs.toArray t) } := by
  unfold newBoxV at hp
  split at hp
  · rename_i l hl
    injection hp with hp; subst hp
    let e' : Env := { e with ρ := fun b => if b = id then some w.heap.size else e.ρ b }
    let w' : World := { w with heap := w.heap.push (.cells vs.toArray t) }
    have hid : e'.ρ id = some w.heap.size := by simp [e']
    have hx' : Ext e e' := ⟨fun b k hb => by
      show (if b = id then some w.heap.size else e.ρ b) = some k
      rw [if_neg (fun e0 => by rw [e0, hf] at hb; cases hb), hb], fun _ _ h => h⟩
    have hold : ∀ b k, e'.ρ b = some k → e.ρ b = some k ∨ (b = id ∧ k = w.heap.size) := by
      intro b k hb
      by_cases hbi : b = id
      · right
        refine ⟨hbi, ?_⟩
        rw [hbi, hid] at hb
        injection hb with hb
        exact hb.symm
      · left
        have : (if b = id then some w.heap.size else e.ρ b) = some k := hb
        rwa [if_neg hbi] at this
    have hb : Below w.heap.size w w' := ⟨rfl, rfl, rfl, by simp [w'], fun k hk => by
      show (w.heap.push _)[k]? = _
      rw [Array.getElem?_push, if_neg (by omega)]⟩
    have hnew : w'.heap[w.heap.size]? = some (.cells vs.toArray t (0, 0)) := by
      show (w.heap.push _)[w.heap.size]? = _
      simp
    have hg1 := hg.later hb
    have hg' : Good C e' a w' := ⟨hg1.below, hg1.defers, hg1.size, fun b b' k h1 h2 => by
        rcases hold b k h1 with h3 | ⟨h3, h4⟩ <;> rcases hold b' k h2 with h5 | ⟨h5, h6⟩
        · exact hg.inj b b' k h3 h5
        · have := (hg.own b k h3).2; omega
        · have := (hg.own b' k h5).2; omega
        · rw [h3, h5], fun b k h1 => by
        rcases hold b k h1 with h3 | ⟨h3, h4⟩
        · exact hg1.own b k h3
        · rw [h4]; exact ⟨hg.below.size, by simp [w']⟩⟩
    have hptr : (AV.val (.one p)).is e' pv := hpv e' hid
    refine h e' _ w' hx' (fun b k hb => (hold b k hb).imp (fun h => h) fun h => h.1) (fun _ _ => .inl) (hg'.put dst _) ?_ ?_
    · intro k v hm
      rcases List.mem_append.1 hm with hm | hm
      · exact putW_holds hg' hl hptr k v hm
      · simp only [List.mem_cons, Prod.mk.injEq] at hm
        rcases hm with ⟨rfl, rfl⟩ | hm
        · exact ⟨_, vs.toArray, hid, hnew, by simp [hx.length]⟩
        · obtain ⟨j, c, h1, rfl, rfl⟩ := cellsW_mem hm
          obtain ⟨v, h2, h3⟩ := hx.atA h1
          exact ⟨_, _, _, v, hid, hnew, by simpa using h2, h3.ext hx'⟩
    · intro k v hk hn
      exact ((hk.below hC hg hb).ext hx').put (putW_none hl (find_append_none hn).1)
  · cases hp
theorem Post.new (h : Post C e a w id ws K) (hC : C.Ok) (hg : Good C e a w) (hf : e.ρ id = none) {dst : Option Tmp} {t : Nat} {cs : List AC} {vs : List Value} (hp : newBoxW C.nt id dst t cs = some ws) (hx : CsAre e cs vs) :
    K (a.put dst (.pointer (some ⟨w.heap.size, 0, none⟩))) { w with heap := w.heap.push (.cells vs.toArray t) } :=
  h.newV hC hg hf (p := .ptr id 0) (fun e' he => ⟨_, he, rfl⟩) hp hx
theorem run_stores (P : Program) (k t : Nat) : ∀ (vs : List Value) (i o : Nat) (w : World) (cs : Array Value), w.heap[k]? = some (.cells cs t (0, 0)) → (∀ v ∈ vs, v.oneCell' = true) → o + i + vs.length ≤ cs.size →
    ∃ w' cs', (storeCells ⟨k, o, none⟩ vs i).run P w = .ok () w' ∧ w'.heap[k]? = some (.cells cs' t (0, 0)) ∧ cs'.size = cs.size ∧ Only k w w' ∧ (∀ j v, vs[j]? = some v → cs'[o + i + j]? = some v) ∧
      (∀ m, (m < o + i ∨ o + i + vs.length ≤ m) → cs'[m]? = cs[m]?)
  | [], i, o, w, cs, h, _, _ => ⟨w, cs, rfl, h, rfl, Only.refl k w, fun j v hj => by simp at hj, fun _ _ => rfl⟩
  | v :: vs, i, o, w, cs, h, h1, hl => by
    simp only [List.length_cons] at hl
    have hlt : o + i < cs.size := by omega
    have hb : (w.setCell ⟨k, o + i, none⟩ v).heap[k]? = some (.cells (cs.setIfInBounds (o + i) v) t (0, 0)) := by
      simp only [World.setCell, Array.getElem?_modify, if_pos, h]
      rfl
    obtain ⟨w', cs', h2, h3, h4, h5, h6, h7⟩ := run_stores P k t vs (i + 1) o (w.setCell ⟨k, o + i, none⟩ v) _ hb (fun x hx => h1 x (List.mem_cons_of_mem _ hx)) (by simp; omega)
    have hc : w.cell? ⟨k, o + i, none⟩ = some cs[o + i] := by simp [World.cell?, h, hlt]
    have hfz : w.frozen? ⟨k, o + i, none⟩ = false := by simp [World.frozen?, h]
    refine ⟨w', cs', ?_, h3, by simpa using h4, ((Only.refl k w).set (o + i) v).trans h5, ?_, ?_⟩
    · rw [storeCells]
      simp [addr_add, run_store _ _ _ _ _ (h1 v (by simp)), hc, hfz, h2]
    · intro j x hj
      cases j with
      | zero =>
        simp at hj; subst hj
        rw [h7 (o + i + 0) (by omega)]
        simp [hlt]
      | succ j =>
        have := h6 j x (by simpa using hj)
        rw [show o + (i + 1) + j = o + i + (j + 1) by omega] at this
        exact this
    · intro m hm
      simp only [List.length_cons] at hm
      rw [h7 m (by omega)]
      have : ¬ o + i = m := by omega
      simp [this]
def storable (V : View) (csz : List Nat) : AC → Bool
  | .lit v => v.oneCell'
  | .sym s j => match V (.live s) with
    | some (.cls c) => Nat.blt j (csz.getD c 0)
    | _ => false
  | _ => true
theorem storable_one (hC : C.Ok) {V : View} (hV : Knows C e a w V) {c : AC} {v : Value} (h : storable V C.csz c = true) (hc : c.is e v) : v.oneCell' = true := by
  cases c with
  | lit x => rw [show v = x from hc]; exact h
  | sym s j =>
    simp only [storable] at h
    split at h
    · rename_i cl hl
      obtain ⟨f, h1, h2⟩ := hc
      obtain ⟨f', h3, h4⟩ := hV _ _ hl
      rw [h1] at h3
      injection h3 with h3; subst h3
      rw [h2]
      exact hC.cell _ _ _ _ h4 (blt_lt h)
    · cases h
  | ptr b o => obtain ⟨k, _, rfl⟩ := hc; rfl
  | clo f bs => obtain ⟨k, _, rfl⟩ := hc; rfl
  | slc b o n c => obtain ⟨k, _, rfl⟩ := hc; rfl
def noSlA (V : View) (numc : List Bool) : AC → Bool
  | .lit v => noSl v
  | .sym s 0 => match V (.live s) with
    | some (.cls c) => numc.getD c false
    | _ => false
  | .sym _ _ => false
  | .slc .. => false
  | _ => true
theorem noSlA_is (hC : C.Ok) {V : View} (hV : Knows C e a w V) {c : AC} {v : Value} (h : noSlA V C.numc c = true) (hc : c.is e v) : noSl v = true := by
  unfold noSlA at h
  split at h
  · rw [show v = _ from hc]; exact h
  · rename_i s
    split at h
    · rename_i cl hl
      obtain ⟨f, h1, h2⟩ := hc
      obtain ⟨f', h3, h4⟩ := hV _ _ hl
      rw [h1] at h3
      injection h3 with h3; subst h3
      rw [h2]
      exact hC.num _ _ _ h h4
    · cases h
  · cases h
  · cases h
  · rename_i h1 h2 h3 h4
    cases c with
    | lit => exact absurd rfl (h1 _)
    | sym s j =>
      cases j with
      | zero => exact absurd rfl (h2 _)
      | succ j => exact absurd rfl (h3 _ _)
    | ptr b o => obtain ⟨k, _, rfl⟩ := hc; rfl
    | clo f bs => obtain ⟨k, _, rfl⟩ := hc; rfl
    | slc b o n c => exact absurd rfl (h4 _ _ _ _)
end
inductive Grp where
  | lit (v : Value)
  | cls (c n : Nat)
inductive Pat where
  | one (g : Grp)
  | agg (gs : List Grp)
  /-- A slice, from its block's begin on, of n elements, and these cells. -/
  | slc (t n : Nat) (gs : List Grp)
inductive RPat where
  | val (p : Pat)
  | tup (ps : List Pat)
inductive Hd where
  | call (f : FuncId)
  | bs (t n : Nat)
  | ix (t : Nat)
  | ld (t : Nat)
  | blt (b : Builtin) (ats : List Nat) (t : Nat)
  | bin (op : BinOp) (t : Nat)
  | sl (t : Nat) (lo hi mx : Bool)
  | mk (t : Nat)
  | cv (s d : Nat)
  | un (op : UnOp) (t : Nat)
  | si (t : Nat)
  deriving DecidableEq
structure Ent where
  hd : Hd
  args : List Pat
  res : RPat
def opHd (o : Oper) : Option (Hd × List Operand) :=
  match o.op with
  | .buildSlice t n parts => match decide (parts.toList.map (·.1) = List.range parts.toList.length) with
    | true => some (.bs t n, parts.toList.map (·.2))
    | false => none
  | .indexAddr t x i => some (.ix t, [x, i])
  | .load t x => some (.ld t, [x])
  | .binOp op t x y _ => some (.bin op t, [x, y])
  | .slice t x lo hi mx => some (.sl t lo.isSome hi.isSome mx.isSome, x :: (lo.toList ++ hi.toList ++ mx.toList))
  | .makeSlice t l c => some (.mk t, [l, c])
  | .convert s d x => some (.cv s d, [x])
  | .unOp op t x => some (.un op t, [x])
  | .index t x i => some (.si t, [x, i])
  | .call c => match c.callee with
    | .builtin b => some (.blt b c.argTypes.toList o.type, c.args.toList)
    | _ => none
  | _ => none
section
variable (C : Ctx) (w : World)
def Grp.is : Grp → List Value → Prop
  | .lit v, vs => vs = [v]
  | .cls c n, vs => ∃ f, C.E c w f ∧ vs = (List.range n).map f
def GrpsAre : List Grp → List Value → Prop
  | [], vs => vs = []
  | g :: gs, vs => ∃ xs ys, vs = xs ++ ys ∧ g.is C w xs ∧ GrpsAre gs ys
def Pat.is : Pat → Value → Prop
  | .one g, v => g.is C w [v]
  | .agg gs, v => ∃ vs, GrpsAre C w gs vs ∧ v = .agg vs.toArray
  | .slc t n gs, v => ∃ k vs, v = .slice (some ⟨k, 0, none⟩) n n ∧ w.heap[k]? = some (.cells vs.toArray t (0, 0)) ∧ GrpsAre C w gs vs
def PatsAre : List Pat → List Value → Prop
  | [], vs => vs = []
  | p :: ps, vs => ∃ v ws, vs = v :: ws ∧ p.is C w v ∧ PatsAre ps ws
def RPat.is : RPat → Value → Prop
  | .val p, v => p.is C w v
  | .tup ps, v => ∃ vs, PatsAre C w ps vs ∧ v = .tuple vs.toArray
end
def Ent.Valid (C : Ctx) (t : Ent) : Prop :=
  match t.hd with
  | .call f => Enters C.P f ∧ ∀ w vs, Below C.w0.heap.size C.w0 w → PatsAre C w t.args vs → Calls C.P f vs.toArray w (fun e w' => ∃ v, e = .returned v ∧ t.res.is C w' v ∧ Below w.heap.size w w')
  | hd => ∀ w (ρ : Operand → Value) (o : Oper) xs, opHd o = some (hd, xs) → Below C.w0.heap.size C.w0 w → PatsAre C w t.args (xs.map ρ) → ∃ v w', (execOp ρ o).run C.P w = .ok (.value v) w' ∧ t.res.is C w' v ∧ Below w.heap.size w w'
def sameV : Value → Value → Bool
  | .bool true, .bool true => true
  | .bool false, .bool false => true
  | .int .i64 (.ofNat a), .int .i64 (.ofNat b) => Nat.beq a b
  | .int .i64 (.negSucc a), .int .i64 (.negSucc b) => Nat.beq a b
  | .int .u64 (.ofNat a), .int .u64 (.ofNat b) => Nat.beq a b
  | .int .u8 (.ofNat a), .int .u8 (.ofNat b) => Nat.beq a b
  | .pointer none, .pointer none => true
  | .nilFunc, .nilFunc => true
  | .slice none 0 0, .slice none 0 0 => true
  | .func (.func f) ⟨[]⟩ ⟨[]⟩, .func (.func g) ⟨[]⟩ ⟨[]⟩ => Nat.beq f g
  | .string a, .string b => decide (a.data.toList = b.data.toList)
  | _, _ => false
theorem sameS {a b : ByteArray} (h : decide (a.data.toList = b.data.toList) = true) : Value.string a = .string b := by
  have h := of_decide_eq_true h
  cases a with
  | mk a =>
    cases b with
    | mk b =>
      cases a with
      | mk a =>
        cases b with
        | mk b =>
          have h : a = b := h
          rw [h]
theorem sameV_eq {a b : Value} (h : sameV a b = true) : a = b := by
  unfold sameV at h
  split at h <;> first | rfl | (rw [Nat.eq_of_beq_eq_true h]) | exact sameS h | cases h
def symRun (s : Nat) : Nat → Nat → List AC → Option (List AC)
  | _, 0, cs => some cs
  | j, n + 1, .sym s' j' :: cs => match Nat.beq s' s with
    | true => match Nat.beq j' j with
      | true => symRun s (j + 1) n cs
      | false => none
    | false => none
  | _, _, _ => none
def matchG (V : View) : Grp → List AC → Option (List AC)
  | .lit v, .lit v' :: cs => match sameV v' v with
    | true => some cs
    | false => none
  | .cls c n, .sym s j :: cs => match V (.live s) with
    | some (.cls c') => match Nat.beq c' c with
      | true => symRun s 0 n (.sym s j :: cs)
      | false => none
    | _ => none
  | _, _ => none
def matchGs (V : View) : List Grp → List AC → Bool
  | [], [] => true
  | g :: gs, cs => match matchG V g cs with
    | some r => matchGs V gs r
    | none => false
  | _, _ => false
def matchP (V : View) : Pat → AV → Bool
  | .one g, .val (.one c) => matchGs V [g] [c]
  | .agg gs, .val (.agg cs) => matchGs V gs cs
  | .slc t n gs, .val (.one (.slc b 0 n' c')) => match Nat.beq n' n with
    | true => match Nat.beq c' n with
      | true => match V (.box b) with
        | some (.box t' m) => match Nat.beq t' t with
          | true => match cellsFrom V b 0 m with
            | some cs => matchGs V gs cs
            | none => false
          | false => false
        | _ => false
      | false => false
    | false => false
  | _, _ => false
def matchPs (V : View) : List Pat → List AV → Bool
  | [], [] => true
  | p :: ps, x :: xs => match matchP V p x with
    | true => matchPs V ps xs
    | false => false
  | _, _ => false
section
variable {C : Ctx} {e : Env} {a : Act} {w : World} {V : View}
theorem symRun_is {s : Nat} {f : Nat → Value} (hf : e.ν s = some f) : ∀ {n j : Nat} {cs r : List AC} {vs : List Value}, symRun s j n cs = some r → CsAre e cs vs → ∃ ys, vs = (List.range' j n).map f ++ ys ∧ CsAre e r ys
  | 0, j, cs, r, vs, h, hc => by
    simp [symRun] at h; subst h
    exact ⟨vs, by simp, hc⟩
  | n + 1, j, [], r, vs, h, hc => by simp [symRun] at h
  | n + 1, j, .lit _ :: _, r, vs, h, hc => by simp [symRun] at h
  | n + 1, j, .ptr _ _ :: _, r, vs, h, hc => by simp [symRun] at h
  | n + 1, j, .clo _ _ :: _, r, vs, h, hc => by simp [symRun] at h
  | n + 1, j, .sym s' j' :: cs, r, vs, h, hc => by
    unfold symRun at h
    split at h
    · rename_i hs
      split at h
      · rename_i hj
        obtain ⟨v, ws, rfl, ⟨f', h1, h2⟩, h3⟩ := hc
        rw [Nat.eq_of_beq_eq_true hs, hf] at h1
        injection h1 with h1; subst h1
        obtain ⟨ys, h4, h5⟩ := symRun_is hf h h3
        refine ⟨ys, ?_, h5⟩
        rw [h2, Nat.eq_of_beq_eq_true hj, h4, List.range'_succ]
        rfl
      · cases h
    · cases h
theorem matchG_is (hV : Knows C e a w V) {g : Grp} {cs r : List AC} {vs : List Value} (h : matchG V g cs = some r) (hc : CsAre e cs vs) : ∃ xs ys, vs = xs ++ ys ∧ g.is C w xs ∧ CsAre e r ys := by
  unfold matchG at h
  split at h
  · rename_i v v' cs
    split at h
    · rename_i hs
      injection h with h; subst h
      obtain ⟨x, ws, rfl, h1, h2⟩ := hc
      exact ⟨[x], ws, rfl, by rw [show x = v' from h1, sameV_eq hs]; rfl, h2⟩
    · cases h
  · rename_i c n s j cs
    split at h
    · rename_i c' hl
      split at h
      · rename_i hcc
        obtain ⟨f, h1, h2⟩ := hV _ _ hl
        obtain ⟨ys, h3, h4⟩ := symRun_is h1 h hc
        exact ⟨_, ys, h3, ⟨f, by rw [← Nat.eq_of_beq_eq_true hcc]; exact h2, by rw [List.range_eq_range']⟩, h4⟩
      · cases h
    · cases h
  · cases h
theorem matchGs_is (hV : Knows C e a w V) : ∀ {gs : List Grp} {cs : List AC} {vs : List Value}, matchGs V gs cs = true → CsAre e cs vs → GrpsAre C w gs vs
  | [], [], vs, h, hc => hc
  | [], _ :: _, vs, h, hc => by simp [matchGs] at h
  | g :: gs, cs, vs, h, hc => by
    unfold matchGs at h
    split at h
    · rename_i r hr
      obtain ⟨xs, ys, h1, h2, h3⟩ := matchG_is hV hr hc
      exact ⟨xs, ys, h1, h2, matchGs_is hV h h3⟩
    · cases h
theorem matchP_is (hV : Knows C e a w V) {p : Pat} {x : AV} {v : Value} (h : matchP V p x = true) (hx : x.is e v) : p.is C w v := by
  unfold matchP at h
  split at h
  · rename_i g c
    obtain ⟨xs, ys, h1, h2, h3⟩ := matchGs_is hV h (vs := [v]) ⟨v, [], rfl, hx, rfl⟩
    rw [show ys = [] from h3, List.append_nil] at h1
    subst h1
    exact h2
  · obtain ⟨vs, h1, h2⟩ := hx
    exact ⟨vs, matchGs_is hV h h1, h2⟩
  · rename_i t n gs b n' c'
    obtain ⟨k, hk, rfl⟩ := hx
    split at h
    · rename_i hn
      split at h
      · rename_i hc
        split at h
        · rename_i t' m hb
          split at h
          · rename_i ht
            split at h
            · rename_i cs hcs
              obtain ⟨h1, vs, h2, h3⟩ := cellsFrom_are hV hk _ _ _ hcs
              obtain ⟨k', arr, q1, q2, q3⟩ := hV _ _ hb
              rw [hk] at q1
              injection q1 with q1; subst q1
              have hvs : arr = vs.toArray := by
                apply Array.ext
                · simp [q3, h2.length, h1]
                · intro i h4 h5
                  have h6 : i < vs.length := by simpa using h5
                  have := h3 i vs[i] (List.getElem?_eq_getElem h6)
                  simp only [Nat.zero_add, World.cell?, q2] at this
                  simp [h4] at this
                  simpa using this
              refine ⟨k, vs, by rw [Nat.eq_of_beq_eq_true hn, Nat.eq_of_beq_eq_true hc], ?_, matchGs_is hV h h2⟩
              rw [q2, hvs, Nat.eq_of_beq_eq_true ht]
            · cases h
          · cases h
        · cases h
      · cases h
    · cases h
  · cases h
def VsAre (e : Env) : List AV → List Value → Prop
  | [], vs => vs = []
  | c :: cs, vs => ∃ v ws, vs = v :: ws ∧ c.is e v ∧ VsAre e cs ws
theorem matchPs_is (hV : Knows C e a w V) : ∀ {ps : List Pat} {xs : List AV} {vs : List Value}, matchPs V ps xs = true → VsAre e xs vs → PatsAre C w ps vs
  | [], [], vs, h, hc => hc
  | [], _ :: _, vs, h, hc => by simp [matchPs] at h
  | _ :: _, [], vs, h, hc => by simp [matchPs] at h
  | p :: ps, x :: xs, vs, h, hc => by
    unfold matchPs at h
    split at h
    · rename_i hp
      obtain ⟨v, ws, h1, h2, h3⟩ := hc
      exact ⟨v, ws, h1, matchP_is hV hp h2, matchPs_is hV h h3⟩
    · cases h
end
def symCells (s : Nat) : Nat → Nat → List AC
  | _, 0 => []
  | j, n + 1 => .sym s j :: symCells s (j + 1) n
def mkGs (s : Nat) : List Grp → List AC × Ws × Nat
  | [] => ([], [], s)
  | .lit v :: gs => match mkGs s gs with
    | (cs, l, s') => (.lit v :: cs, l, s')
  | .cls c n :: gs => match mkGs (s + 1) gs with
    | (cs, l, s') => (symCells s 0 n ++ cs, (.live s, .cls c) :: l, s')
def mkP (s : Nat) : Pat → Option (A1 × Ws × Nat)
  | .one g => match mkGs s [g] with
    | ([c], l, s') => some (.one c, l, s')
    | _ => none
  | .agg gs => match mkGs s gs with
    | (cs, l, s') => some (.agg cs, l, s')
  | .slc .. => none
def mkPs (s : Nat) : List Pat → Option (List A1 × Ws × Nat)
  | [] => some ([], [], s)
  | p :: ps => match mkP s p with
    | some (x, l, s') => match mkPs s' ps with
      | some (xs, l', s'') => some (x :: xs, l ++ l', s'')
      | none => none
    | none => none
def mkR (s : Nat) : RPat → Option (AV × Ws × Nat)
  | .val p => match mkP s p with
    | some (x, l, s') => some (.val x, l, s')
    | none => none
  | .tup ps => match mkPs s ps with
    | some (xs, l, s') => some (.tup xs, l, s')
    | none => none
structure Grown (C : Ctx) (w : World) (s s' : Nat) (l : Ws) (e e' : Env) : Prop where
  ext : Ext e e'
  ρ : e'.ρ = e.ρ
  ν : ∀ x f, e'.ν x = some f → e.ν x = some f ∨ (s ≤ x ∧ x < s')
  le : s ≤ s'
  live : ∀ k v, (k, v) ∈ l → ∃ x c, k = .live x ∧ v = .cls c ∧ ∃ f, e'.ν x = some f ∧ C.E c w f
section
variable {C : Ctx} {w : World}
theorem Grown.refl (s : Nat) (e : Env) : Grown C w s s [] e e := ⟨Ext.refl e, rfl, fun _ _ h => .inl h, Nat.le_refl _, fun _ _ h => by simp at h⟩
theorem Grown.trans {s s' s'' : Nat} {l l' : Ws} {e e' e'' : Env} (h : Grown C w s s' l e e') (k : Grown C w s' s'' l' e' e'') : Grown C w s s'' (l ++ l') e e'' :=
  ⟨h.ext.trans k.ext, k.ρ.trans h.ρ, fun x f hx => by
    rcases k.ν x f hx with h1 | h1
    · rcases h.ν x f h1 with h2 | h2
      · exact .inl h2
      · exact .inr ⟨h2.1, Nat.lt_of_lt_of_le h2.2 k.le⟩
    · exact .inr ⟨Nat.le_trans h.le h1.1, h1.2⟩, Nat.le_trans h.le k.le, fun x v hm => by
    rcases List.mem_append.1 hm with hm | hm
    · obtain ⟨x, c, h1, h2, f, h3, h4⟩ := h.live x v hm
      exact ⟨x, c, h1, h2, f, k.ext.ν _ _ h3, h4⟩
    · exact k.live x v hm⟩
theorem symCells_are {e : Env} {s : Nat} {f : Nat → Value} (hf : e.ν s = some f) : ∀ (n j : Nat), CsAre e (symCells s j n) ((List.range' j n).map f)
  | 0, j => rfl
  | n + 1, j => ⟨f j, _, by rw [List.range'_succ]; rfl, ⟨f, hf, rfl⟩, symCells_are hf n (j + 1)⟩
theorem mkGs_le : ∀ {gs : List Grp} {s s' : Nat} {cs : List AC} {l : Ws}, mkGs s gs = (cs, l, s') → s ≤ s'
  | [], s, s', cs, l, h => by
    simp only [mkGs, Prod.mk.injEq] at h
    omega
  | .lit v :: gs, s, s', cs, l, h => by
    simp only [mkGs] at h
    generalize hm : mkGs s gs = r at h
    obtain ⟨cs', l', s''⟩ := r
    simp only [Prod.mk.injEq] at h
    have := mkGs_le hm
    omega
  | .cls c n :: gs, s, s', cs, l, h => by
    simp only [mkGs] at h
    generalize hm : mkGs (s + 1) gs = r at h
    obtain ⟨cs', l', s''⟩ := r
    simp only [Prod.mk.injEq] at h
    have := mkGs_le hm
    omega
theorem mkGs_is {B : Nat} : ∀ {gs : List Grp} {s s' : Nat} {cs : List AC} {l : Ws} {vs : List Value} {e : Env}, mkGs s gs = (cs, l, s') → s' ≤ B → (∀ x, s ≤ x → x < B → e.ν x = none) → GrpsAre C w gs vs → ∃ e', Grown C w s s' l e e' ∧ CsAre e' cs vs
  | [], s, s', cs, l, vs, e, h, hB, hn, hg => by
    simp only [mkGs, Prod.mk.injEq] at h
    obtain ⟨rfl, rfl, rfl⟩ := h
    exact ⟨e, Grown.refl _ _, hg⟩
  | .lit v :: gs, s, s', cs, l, vs, e, h, hB, hn, ⟨xs, ys, h1, h2, h3⟩ => by
    simp only [mkGs] at h
    generalize hm : mkGs s gs = r at h
    obtain ⟨cs', l', s''⟩ := r
    simp only [Prod.mk.injEq] at h
    obtain ⟨rfl, rfl, rfl⟩ := h
    obtain ⟨e', h4, h5⟩ := mkGs_is hm hB hn h3
    subst h1
    rw [show xs = [v] from h2]
    exact ⟨e', h4, v, ys, rfl, rfl, h5⟩
  | .cls c n :: gs, s, s', cs, l, vs, e, h, hB, hn, ⟨xs, ys, h1, ⟨f, h2, h2'⟩, h3⟩ => by
    simp only [mkGs] at h
    generalize hm : mkGs (s + 1) gs = r at h
    obtain ⟨cs', l', s''⟩ := r
    simp only [Prod.mk.injEq] at h
    obtain ⟨rfl, rfl, rfl⟩ := h
    have hle := mkGs_le hm
    let e1 : Env := { e with ν := fun x => if x = s then some f else e.ν x }
    have he1 : e1.ν s = some f := by simp [e1]
    have hg1 : Grown C w s (s + 1) [(.live s, .cls c)] e e1 := ⟨⟨fun _ _ h => h, fun x g hx => by
        show (if x = s then some f else e.ν x) = some g
        rw [if_neg (fun e0 => by rw [e0, hn s (Nat.le_refl _) (by omega)] at hx; cases hx), hx]⟩, rfl, fun x g hx => by
        by_cases hxs : x = s
        · right; omega
        · left
          have : (if x = s then some f else e.ν x) = some g := hx
          rwa [if_neg hxs] at this, by omega, fun k v hk => by
        simp only [List.mem_cons, Prod.mk.injEq, List.not_mem_nil, or_false] at hk
        exact ⟨s, c, hk.1, hk.2, f, he1, h2⟩⟩
    obtain ⟨e', h4, h5⟩ := mkGs_is (e := e1) hm hB (fun x hx hxB => by
      show (if x = s then some f else e.ν x) = none
      rw [if_neg (by omega)]
      exact hn x (by omega) hxB) h3
    refine ⟨e', hg1.trans h4, ?_⟩
    subst h1
    rw [h2', List.range_eq_range']
    exact (symCells_are (h4.ext.ν _ _ he1) n 0).append h5
theorem mkP_is {B : Nat} {p : Pat} {s s' : Nat} {x : A1} {l : Ws} {v : Value} {e : Env} (h : mkP s p = some (x, l, s')) (hB : s' ≤ B) (hn : ∀ x, s ≤ x → x < B → e.ν x = none) (hp : p.is C w v) : ∃ e', Grown C w s s' l e e' ∧ x.is e' v := by
  cases p with
  | one g =>
    simp only [mkP] at h
    generalize hm : mkGs s [g] = r at h
    obtain ⟨cs', l', s''⟩ := r
    split at h
    · rename_i c l1 s1 heq
      simp only [Prod.mk.injEq] at heq
      obtain ⟨rfl, rfl, rfl⟩ := heq
      injection h with h
      simp only [Prod.mk.injEq] at h
      obtain ⟨rfl, rfl, rfl⟩ := h
      obtain ⟨e', h1, v', ws, h2, h3, h4⟩ := mkGs_is hm hB hn (vs := [v]) ⟨[v], [], rfl, hp, rfl⟩
      injection h2 with h2 _
      subst h2
      exact ⟨e', h1, h3⟩
    · cases h
  | agg gs =>
    simp only [mkP] at h
    generalize hm : mkGs s gs = r at h
    obtain ⟨cs', l', s''⟩ := r
    injection h with h
    simp only [Prod.mk.injEq] at h
    obtain ⟨rfl, rfl, rfl⟩ := h
    obtain ⟨vs, h1, h2⟩ := hp
    obtain ⟨e', h3, h4⟩ := mkGs_is hm hB hn h1
    exact ⟨e', h3, vs, h4, h2⟩
  | slc t n gs => simp [mkP] at h
theorem mkP_le {p : Pat} {s s' : Nat} {x : A1} {l : Ws} (h : mkP s p = some (x, l, s')) : s ≤ s' := by
  cases p with
  | one g =>
    simp only [mkP] at h
    generalize hm : mkGs s [g] = r at h
    obtain ⟨cs', l', s''⟩ := r
    have := mkGs_le hm
    split at h
    · rename_i c l1 s1 heq
      simp only [Prod.mk.injEq] at heq
      injection h with h
      simp only [Prod.mk.injEq] at h
      omega
    · cases h
  | agg gs =>
    simp only [mkP] at h
    generalize hm : mkGs s gs = r at h
    obtain ⟨cs', l', s''⟩ := r
    injection h with h
    simp only [Prod.mk.injEq] at h
    have := mkGs_le hm
    omega
  | slc t n gs => simp [mkP] at h
theorem mkPs_le : ∀ {ps : List Pat} {s s' : Nat} {xs : List A1} {l : Ws}, mkPs s ps = some (xs, l, s') → s ≤ s'
  | [], s, s', xs, l, h => by
    simp only [mkPs, Option.some.injEq, Prod.mk.injEq] at h
    omega
  | p :: ps, s, s', xs, l, h => by
    simp only [mkPs] at h
    split at h
    · rename_i x l1 s1 hp1
      split at h
      · rename_i xs2 l2 s2 hp2
        injection h with h
        simp only [Prod.mk.injEq] at h
        have := mkP_le hp1
        have := mkPs_le hp2
        omega
      · cases h
    · cases h
theorem mkPs_is {B : Nat} : ∀ {ps : List Pat} {s s' : Nat} {xs : List A1} {l : Ws} {vs : List Value} {e : Env}, mkPs s ps = some (xs, l, s') → s' ≤ B → (∀ x, s ≤ x → x < B → e.ν x = none) → PatsAre C w ps vs → ∃ e', Grown C w s s' l e e' ∧ AsAre e' xs vs
  | [], s, s', xs, l, vs, e, h, hB, hn, hp => by
    simp only [mkPs, Option.some.injEq, Prod.mk.injEq] at h
    obtain ⟨rfl, rfl, rfl⟩ := h
    exact ⟨e, Grown.refl _ _, hp⟩
  | p :: ps, s, s', xs, l, vs, e, h, hB, hn, ⟨v, ws, h1, h2, h3⟩ => by
    simp only [mkPs] at h
    split at h
    · rename_i x l1 s1 hp1
      split at h
      · rename_i xs2 l2 s2 hp2
        injection h with h
        simp only [Prod.mk.injEq] at h
        obtain ⟨rfl, rfl, rfl⟩ := h
        obtain ⟨e1, g1, i1⟩ := mkP_is hp1 (Nat.le_trans (mkPs_le hp2) hB) hn h2
        obtain ⟨e2, g2, i2⟩ := mkPs_is (e := e1) hp2 hB (fun x hx hxB => by
          cases hc : e1.ν x with
          | none => rfl
          | some f =>
            rcases g1.ν x f hc with h | h
            · rw [hn x (Nat.le_trans g1.le hx) hxB] at h; cases h
            · omega) h3
        exact ⟨e2, g1.trans g2, v, ws, h1, i1.ext g2.ext, i2⟩
      · cases h
    · cases h
theorem mkR_is {B : Nat} {p : RPat} {s s' : Nat} {x : AV} {l : Ws} {v : Value} {e : Env} (h : mkR s p = some (x, l, s')) (hB : s' ≤ B) (hn : ∀ x, s ≤ x → x < B → e.ν x = none) (hp : p.is C w v) : ∃ e', Grown C w s s' l e e' ∧ x.is e' v := by
  cases p with
  | val p =>
    simp only [mkR] at h
    split at h
    · rename_i y l1 s1 hp1
      injection h with h
      simp only [Prod.mk.injEq] at h
      obtain ⟨rfl, rfl, rfl⟩ := h
      exact mkP_is hp1 hB hn hp
    · cases h
  | tup ps =>
    simp only [mkR] at h
    split at h
    · rename_i y l1 s1 hp1
      injection h with h
      simp only [Prod.mk.injEq] at h
      obtain ⟨rfl, rfl, rfl⟩ := h
      obtain ⟨vs, h1, h2⟩ := hp
      obtain ⟨e', h3, h4⟩ := mkPs_is hp1 hB hn h1
      exact ⟨e', h3, vs, h4, h2⟩
    · cases h
end
def opnds (V : View) : List Operand → Option (List AV)
  | [] => some []
  | x :: xs => match opnd V x with
    | some a => match opnds V xs with
      | some l => some (a :: l)
      | none => none
    | none => none
def Hd.same : Hd → Hd → Bool
  | .call f, .call g => Nat.beq f g
  | .call _, _ => false
  | _, .call _ => false
  | a, b => decide (a = b)
theorem Hd.same_eq {a b : Hd} (h : a.same b = true) : a = b := by
  unfold Hd.same at h
  split at h
  · rw [Nat.eq_of_beq_eq_true h]
  · cases h
  · cases h
  · exact of_decide_eq_true h
def findEnt (V : View) (h : Hd) (xs : List AV) : List Ent → Option Ent
  | [] => none
  | t :: T => match t.hd.same h with
    | true => match matchPs V t.args xs with
      | true => some t
      | false => findEnt V h xs T
    | false => findEnt V h xs T
theorem findEnt_is {V : View} {h : Hd} {xs : List AV} {t : Ent} : ∀ {T : List Ent}, findEnt V h xs T = some t → t ∈ T ∧ t.hd = h ∧ matchPs V t.args xs = true
  | [], hf => by simp [findEnt] at hf
  | u :: T, hf => by
    unfold findEnt at hf
    split at hf
    · rename_i h1
      split at hf
      · rename_i h2
        injection hf with hf; subst hf
        exact ⟨by simp, Hd.same_eq h1, h2⟩
      · obtain ⟨h3, h4⟩ := findEnt_is hf
        exact ⟨List.mem_cons_of_mem _ h3, h4⟩
    · obtain ⟨h3, h4⟩ := findEnt_is hf
      exact ⟨List.mem_cons_of_mem _ h3, h4⟩
def useEnt (S : Stat) (T : List Ent) (V : View) (id : Nat) (dst : Option Tmp) (h : Hd) (xs : List Operand) : Option Ws :=
  match opnds V xs with
  | some l => match findEnt V h l T with
    | some t => match mkR (id * 8) t.res with
      | some (x, lv, s') => match Nat.ble s' (id * 8 + 8) with
        | true => match putW S.nt dst x with
          | some ws => some (ws ++ lv)
          | none => none
        | false => none
      | none => none
    | none => none
  | none => none
def litOp (S : Stat) (dst : Option Tmp) (s : Sem Value) : Option Ws :=
  match ev S.P s with
  | some v => putW S.nt dst (.val (.one (.lit v)))
  | none => none
def A1.cells : A1 → List AC
  | .one c => [c]
  | .agg cs => cs
def allB (f : AC → Bool) : List AC → Bool
  | [] => true
  | c :: cs => match f c with
    | true => allB f cs
    | false => false
def fieldOf (P : Program) (s f : Nat) : Option Field :=
  match P.underlying s with
  | some (.struct fields) => fields[f]?
  | _ => none
def elemN (n : Nat) : List Nat → Bool
  | [] => false
  | m :: l => match Nat.beq m n with
    | true => true
    | false => elemN n l
theorem elemN_mem {n : Nat} : ∀ {l : List Nat}, elemN n l = true → n ∈ l
  | [], h => by simp [elemN] at h
  | m :: l, h => by
    unfold elemN at h
    split at h
    · rename_i hm; rw [Nat.eq_of_beq_eq_true hm]; simp
    · exact List.mem_cons_of_mem _ (elemN_mem h)
def storeW (S : Stat) (V : View) (dst : Option Tmp) (t : TypeId) (b o : Nat) (cs : List AC) : Option Ws :=
  match S.P.info? t with
  | none => none
  | some i => match Nat.beq cs.length i.size with
    | false => none
    | true => match allB (storable V S.csz) cs with
      | false => none
      | true => match V (.box b) with
        | some (.box ty n) => match Nat.ble (o + cs.length) n with
          | false => none
          | true => match elemN ty S.okT with
            | false => none
            | true => match boxFull S.P ty n with
              | false => none
              | true => match V (.cell b 0) with
                | some (.ac c0) => match noSlA V S.numc c0 with
                  | false => none
                  | true => match putW S.nt dst undefA with
                    | some ws => some (ws ++ cellsW b o cs)
                    | none => none
                | _ => none
        | _ => none
def fillA (S : Stat) (V : View) (fs : List Field) : List (Nat × Operand) → List AC → Option (List AC)
  | [], cs => some cs
  | (i, x) :: l, cs => match fs[i]? with
    | some f => match S.P.info? f.type with
      | some j => match opnd V x with
        | some (.val y) => match allB (storable V S.csz) y.cells with
          | true => match Nat.beq y.cells.length j.size with
            | true => match Nat.ble (f.offset + y.cells.length) cs.length with
              | true => fillA S V fs l (cs.take f.offset ++ y.cells ++ cs.drop (f.offset + y.cells.length))
              | false => none
            | false => none
          | false => none
        | _ => none
      | none => none
    | none => none
def buildA (S : Stat) (V : View) (z n : Nat) : Nat → List (Nat × Operand) → Option (List AC)
  | _, [] => some []
  | j, (i, x) :: l => match Nat.beq i j with
    | true => match opnd V x with
      | some (.val y) => match allB (storable V S.csz) y.cells with
        | true => match Nat.beq y.cells.length z with
          | true => match buildA S V z n (j + 1) l with
            | some cs => some (y.cells ++ cs)
            | none => none
          | false => none
        | false => none
      | _ => none
    | false => none
def slc? : Option AV → Option (Nat × Nat × Nat)
  | some (.val (.one (.slc b o n _))) => some (b, o, n)
  | _ => none
theorem slc_is {C : Ctx} {e : Env} {a : Act} {w : World} {V : View} (hV : Knows C e a w V) {x : Operand} {b o n : Nat} (h : slc? (opnd V x) = some (b, o, n)) :
    ∃ k c, e.ρ b = some k ∧ a.eval x = .slice (some ⟨k, o, none⟩) n c := by
  unfold slc? at h
  split at h
  · rename_i hx
    injection h with h; simp only [Prod.mk.injEq] at h; obtain ⟨h1, h2, h3⟩ := h; subst h1; subst h2; subst h3
    obtain ⟨k, h1, h2⟩ := opnd_is hV hx
    exact ⟨k, _, h1, h2⟩
  · cases h
def partsIn : Nat → List (Nat × Operand) → Bool
  | _, [] => true
  | j, p :: l => match Nat.beq p.1 j with
    | true => partsIn (j + 1) l
    | false => false
theorem partsIn_is : ∀ {l : List (Nat × Operand)} {j : Nat}, partsIn j l = true → l.map (·.1) = List.range' j l.length
  | [], _, _ => rfl
  | p :: l, j, h => by
    unfold partsIn at h
    split at h
    · rename_i hp
      rw [List.map_cons, partsIn_is h, Nat.eq_of_beq_eq_true hp]
      rfl
    · cases h
def entBs (S : Stat) (T : List Ent) (V : View) (id : Nat) (dst : Option Tmp) (t n : Nat) (parts : List (Nat × Operand)) : Option Ws :=
  match partsIn 0 parts with
  | true => useEnt S T V id dst (.bs t n) (parts.map (·.2))
  | false => none
def bsW (S : Stat) (V : View) (id : Nat) (dst : Option Tmp) (t : TypeId) (n : Nat) (parts : Array (Nat × Operand)) : Option Ws :=
  match S.P.underlying t with
    | some (.slice e) => match S.P.info? e with
      | some i => match i.zero with
        | some _ => match i.size with
          | 0 => none
          | z + 1 => match Nat.ble (n * (z + 1)) 16777216 with
            | false => none
            | true => match Nat.blt 0 n with
              | false => none
              | true => match buildA S V (z + 1) n 0 parts.toList with
                | some cs => match Nat.beq parts.toList.length n with
                  | true => match newBoxV S.nt id dst e cs (.slc id 0 n n) with
                    | some ws => some ws
                    | none => none
                  | false => none
                | none => none
        | none => none
      | none => none
    | _ => none
def stepOp (S : Stat) (T : List Ent) (V : View) (id : Nat) (o : Oper) : Option Ws :=
  match o.op with
  | .move x => match opnd V x with
    | some v => putW S.nt o.dst v
    | none => none
  | .assign x => match opnd V x with
    | some v => putW S.nt o.dst v
    | none => none
  | .pick c x y => match lit? (opnd V c) with
    | some (.bool true) => match opnd V x with
      | some v => putW S.nt o.dst v
      | none => none
    | some (.bool false) => match opnd V y with
      | some v => putW S.nt o.dst v
      | none => none
    | _ => none
  | .alloc t => match S.P.info? t with
    | some i => match i.zero with
      | some z => newBoxW S.nt id o.dst t (z.cells.toList.map .lit)
      | none => none
    | none => none
  | .box t x => match opnd V x with
    | some (.val a) => match allB (storable V S.csz) a.cells with
      | true => newBoxW S.nt id o.dst t a.cells
      | false => none
    | _ => none
  | .build t parts => match S.P.info? t with
    | some i => match i.zero with
      | some z => match S.P.underlying t with
        | some (.struct fs) => match fs.toList.all (fun f => (S.P.info? f.type).isSome) with
          | true => match fillA S V fs.toList parts.toList (z.cells.toList.map .lit) with
            | some cs => putW S.nt o.dst (.val (.agg cs))
            | none => none
          | false => none
        | _ => none
      | none => none
    | none => none
  | .load t x => match ptr? (opnd V x) with
    | some (b, p) => match loadA S.P V t b p with
      | some y => putW S.nt o.dst (.val y)
      | none => none
    | none => useEnt S T V id o.dst (.ld t) [x]
  | .store t x y => match ptr? (opnd V x) with
    | some (b, p) => match opnd V y with
      | some (.val a) => storeW S V o.dst t b p a.cells
      | _ => none
    | none => none
  | .nilCheck x => match ptr? (opnd V x) with
    | some (b, p) => putW S.nt o.dst (.val (.one (.ptr b p)))
    | none => none
  | .binOp op t x y u => match lit? (opnd V x), lit? (opnd V y) with
    | some vx, some vy => litOp S o.dst (do eqGuard op t x y vx vy; binOp op t vx vy)
    | _, _ => useEnt S T V id o.dst (.bin op t) [x, y]
  | .unOp op t x => match lit? (opnd V x) with
    | some vx => litOp S o.dst (Op.unary op vx)
    | none => useEnt S T V id o.dst (.un op t) [x]
  | .convert s d x => match lit? (opnd V x) with
    | some vx => litOp S o.dst (convert s d vx)
    | none => useEnt S T V id o.dst (.cv s d) [x]
  | .slice t x lo hi mx => useEnt S T V id o.dst (.sl t lo.isSome hi.isSome mx.isSome) (x :: (lo.toList ++ hi.toList ++ mx.toList))
  | .makeSlice t l c => useEnt S T V id o.dst (.mk t) [l, c]
  | .index t x i => useEnt S T V id o.dst (.si t) [x, i]
  | .fieldAddr s x f => match ptr? (opnd V x) with
    | some (b, p) => match fieldOf S.P s f with
      | some fl => match S.P.info? fl.type with
        | some i => match i.size with
          | 0 => none
          | _ + 1 => putW S.nt o.dst (.val (.one (.ptr b (p + fl.offset))))
        | none => none
      | none => none
    | none => none
  | .field t x f => match opnd V x with
    | some (.val (.agg cs)) => match fieldOf S.P t f with
      | some fl => match S.P.underlying fl.type with
        | some d => match isAggD d with
          | true => match S.P.info? fl.type with
            | some i => putW S.nt o.dst (.val (.agg ((cs.drop fl.offset).take i.size)))
            | none => none
          | false => match cs[fl.offset]? with
            | some c => putW S.nt o.dst (.val (.one c))
            | none => none
        | none => none
      | none => none
    | _ => none
  | .extract x i => match opnd V x with
    | some (.tup l) => match l[i]? with
      | some y => putW S.nt o.dst (.val y)
      | none => none
    | _ => none
  | .buildSlice t n parts => match entBs S T V id o.dst t n parts.toList with
    | some ws => some ws
    | none => bsW S V id o.dst t n parts
  | .indexAddr t x i => match slc? (opnd V x), lit? (opnd V i), S.P.underlying t with
    | some (b, p, n), some (.int .i64 (.ofNat j)), some (.slice e) => match Nat.blt j n with
      | true => match S.P.info? e with
        | some inf => putW S.nt o.dst (.val (.one (.ptr b (p + j * inf.size))))
        | none => none
      | false => none
    | _, _, _ => useEnt S T V id o.dst (.ix t) [x, i]
  | .call c => match c.callee with
    | .value fo => match opnd V fo with
      | some (.val (.one (.lit (.func (.func f) ⟨[]⟩ ⟨[]⟩)))) => useEnt S T V id o.dst (.call f) c.args.toList
      | _ => none
    | .builtin b => useEnt S T V id o.dst (.blt b c.argTypes.toList o.type) c.args.toList
    | _ => none
  | _ => none
section
variable {C : Ctx} {e : Env} {a : Act} {w : World} {V : View} {T : List Ent} {id : Nat} {ws : Ws} {K : Act → World → Prop} {Q : Exit → Act → World → Prop} {o : Oper}
theorem opnds_are (hV : Knows C e a w V) : ∀ {xs : List Operand} {l : List AV}, opnds V xs = some l → VsAre e l (xs.map a.eval)
  | [], l, h => by simp [opnds] at h; subst h; rfl
  | x :: xs, l, h => by
    unfold opnds at h
    split at h
    · rename_i y hy
      split at h
      · rename_i ys hys
        injection h with h; subst h
        exact ⟨_, _, rfl, opnd_is hV hy, opnds_are hV hys⟩
      · cases h
    · cases h
theorem Knows.below (hC : C.Ok) (hg : Good C e a w) {w' : World} (hb : Below w.heap.size w w') (hV : Knows C e a w V) : Knows C e a w' V := fun k v h => (hV k v h).below hC hg hb
theorem useEnt_is (hC : C.Ok) (hT : ∀ t ∈ T, t.Valid C) (hV : Knows C e a w V) (hg : Good C e a w) (hn : ∀ x, x / 8 = id → e.ν x = none) {dst : Option Tmp} {h : Hd} {xs : List Operand}
    (hu : useEnt C.toStat T V id dst h xs = some ws) (hP : Post C e a w id ws K) :
    ∃ t : Ent, t.Valid C ∧ t.hd = h ∧ PatsAre C w t.args (xs.map a.eval) ∧ ∀ v w', Below w.heap.size w w' → t.res.is C w' v → K (a.put dst v) w' := by
  unfold useEnt at hu
  split at hu
  · rename_i l hl
    split at hu
    · rename_i t ht
      split at hu
      · rename_i x lv s' hm
        split at hu
        · rename_i hs
          split at hu
          · rename_i ws1 hp
            injection hu with hu; subst hu
            obtain ⟨h1, h2, h3⟩ := findEnt_is ht
            refine ⟨t, hT t h1, h2, matchPs_is hV h3 (opnds_are hV hl), fun v w' hb hr => ?_⟩
            have hs' : s' ≤ id * 8 + 8 := Nat.le_of_ble_eq_true hs
            obtain ⟨e', g, hx⟩ := mkR_is hm hs' (fun x hx hxB => hn x (by omega)) hr
            have hg1 := hg.later hb
            have hg' : Good C e' a w' := ⟨hg1.below, hg1.defers, hg1.size, fun b b' k h1 h2 => hg1.inj b b' k (by rw [← g.ρ]; exact h1) (by rw [← g.ρ]; exact h2), fun b k h1 => hg1.own b k (by rw [← g.ρ]; exact h1)⟩
            refine hP e' _ w' g.ext (fun b k hb => .inl (by rw [← g.ρ]; exact hb)) (fun s f hs => (g.ν s f hs).imp (fun h => h) (fun h => by omega)) (hg'.put dst v) ?_ ?_
            · intro k y hm
              rcases List.mem_append.1 hm with hm | hm
              · exact putW_holds hg' hp hx k y hm
              · obtain ⟨x, c, rfl, rfl, f, h4, h5⟩ := g.live k y hm
                exact ⟨f, h4, h5⟩
            · intro k y hk hn
              exact ((hk.below hC hg hb).ext g.ext).put (putW_none hp (find_append_none hn).1)
          · cases hu
        · cases hu
      · cases hu
    · cases hu
  · cases hu
theorem wp_of_value {v : Value} (h : (execOp a.eval o).run C.P w = .ok (.value v) w) (hK : K (a.put o.dst v) w) : o.wp C.P a w K Q := by
  unfold Oper.wp
  rw [h]
  exact hK
theorem wp_of_value' {v : Value} {w' : World} (h : (execOp a.eval o).run C.P w = .ok (.value v) w') (hK : K (a.put o.dst v) w') : o.wp C.P a w K Q := by
  unfold Oper.wp
  rw [h]
  exact hK
theorem useEnt_op (hC : C.Ok) (hT : ∀ t ∈ T, t.Valid C) (hV : Knows C e a w V) (hg : Good C e a w) (hn : ∀ x, x / 8 = id → e.ν x = none) {h : Hd} {xs : List Operand} (hh : opHd o = some (h, xs)) (hc : ∀ f, h ≠ .call f)
    (hu : useEnt C.toStat T V id o.dst h xs = some ws) (hP : Post C e a w id ws K) : o.wp C.P a w K Q := by
  obtain ⟨t, h1, h2, h3, h4⟩ := useEnt_is hC hT hV hg hn hu hP
  obtain ⟨hd, args, res⟩ := t
  simp only at h2
  subst h2
  unfold Ent.Valid at h1
  split at h1
  · rename_i f hf
    exact absurd hf (hc f)
  · obtain ⟨v, w', h5, h6, h7⟩ := h1 w a.eval o xs hh hg.below h3
    exact wp_of_value' h5 (h4 v w' h7 h6)
theorem useEnt_call (hC : C.Ok) (hT : ∀ t ∈ T, t.Valid C) (hV : Knows C e a w V) (hg : Good C e a w) (hn : ∀ x, x / 8 = id → e.ν x = none) {f : FuncId} {c : Call} {fo : Operand} (ho : o.op = .call c) (hcal : c.callee = .value fo)
    (hfo : a.eval fo = .func (.func f) #[] #[]) (hu : useEnt C.toStat T V id o.dst (.call f) c.args.toList = some ws) (hP : Post C e a w id ws K) : o.wp C.P a w K Q := by
  obtain ⟨t, h1, h2, h3, h4⟩ := useEnt_is hC hT hV hg hn hu hP
  obtain ⟨hd, args, res⟩ := t
  simp only at h2
  subst h2
  obtain ⟨hE, hc⟩ := h1
  have hr : (execOp a.eval o).run C.P w = .ok (.enter f (c.args.toList.map a.eval).toArray) w := by
    have h := hE (c.args.map a.eval) w
    simp [execOp, ho, resolve, hcal, hfo, Deferred.ofValue, invoke, h]
    apply Array.ext'
    simp
  unfold Oper.wp
  rw [hr]
  refine Calls.mono (hc w _ hg.below h3) ?_
  rintro e w' ⟨v, rfl, h5, h6⟩
  exact h4 v w' h6 h5
theorem A1.cells_are {x : A1} {v : Value} (hC : C.Ok) (hV : Knows C e a w V) (h : x.is e v) (hs : allB (storable V C.csz) x.cells = true) : CsAre e x.cells v.cells.toList := by
  cases x with
  | one c =>
    simp only [A1.cells, allB] at hs ⊢
    split at hs
    · rename_i hc
      have h1 := storable_one hC hV hc h
      have : v.cells = #[v] := by cases v <;> first | rfl | (simp [Value.oneCell'] at h1)
      rw [this]
      exact ⟨v, [], rfl, h, rfl⟩
    · cases hs
  | agg cs =>
    obtain ⟨vs, h1, rfl⟩ := h
    simpa [Value.cells, A1.cells] using h1
theorem allB_one (hC : C.Ok) (hV : Knows C e a w V) : ∀ {cs : List AC} {vs : List Value}, allB (storable V C.csz) cs = true → CsAre e cs vs → ∀ v ∈ vs, v.oneCell' = true
  | [], vs, _, h, v, hv => by rw [h] at hv; simp at hv
  | c :: cs, vs, hs, ⟨x, ws, h1, h2, h3⟩, v, hv => by
    simp only [allB] at hs
    split at hs
    · rename_i hc
      subst h1
      rcases List.mem_cons.1 hv with rfl | hv
      · exact storable_one hC hV hc h2
      · exact allB_one hC hV hs h3 v hv
    · cases hs
theorem storeW_is (hC : C.Ok) (hV : Knows C e a w V) (hg : Good C e a w) {dst : Option Tmp} {t : TypeId} {b p k : Nat} (hk : e.ρ b = some k) {x : A1} {v : Value} (hx : x.is e v)
    (hu : storeW C.toStat V dst t b p x.cells = some ws) (hP : Post C e a w id ws K) : ∃ w', (storeVar t ⟨k, p, none⟩ v).run C.P w = .ok () w' ∧ K (a.put dst undef) w' := by
  unfold storeW at hu
  split at hu
  · cases hu
  · rename_i i hi
    split at hu
    · cases hu
    · rename_i hsz
      split at hu
      · cases hu
      · rename_i hall
        split at hu
        · rename_i ty n hbox
          split at hu
          · cases hu
          · rename_i hle
            split at hu
            · cases hu
            · rename_i hty
              split at hu
              · cases hu
              rename_i hfull
              split at hu
              · rename_i c0 hc0
                split at hu
                · cases hu
                · rename_i hns
                  split at hu
                  · rename_i ws1 hp
                    injection hu with hu; subst hu
                    obtain ⟨k1, cs, h1, h2, h3⟩ := hV _ _ hbox
                    rw [hk] at h1
                    injection h1 with h1; subst h1
                    obtain ⟨k2, cs2, ty2, v0, h4, h5, h6, h7⟩ := hV _ _ hc0
                    rw [hk] at h4
                    injection h4 with h4; subst h4
                    rw [h2] at h5
                    injection h5 with h5
                    injection h5 with h5 h5' _
                    subst h5
                    have hcs := A1.cells_are hC hV hx hall
                    have hlen : v.cells.toList.length = x.cells.length := hcs.length
                    have hle' := Nat.le_of_ble_eq_true hle
                    obtain ⟨w', cs', r1, r2, r3, r4, r5, r6⟩ := run_stores C.P k ty v.cells.toList 0 p w cs h2 (allB_one hC hV hall hcs) (by rw [hlen, h3]; omega)
                    refine ⟨w', ?_, ?_⟩
                    · have hs1 : ¬ v.cells.size ≠ i.size := by
                        have := Nat.eq_of_beq_eq_true hsz
                        rw [← this, ← hlen]
                        simp
                      simp only [storeVar, Sem.run_bind, run_size hi, Result.andThen_ok, if_neg hs1]
                      exact r1
                    · have hb : Below C.w0.heap.size w w' := r4.below (hg.own b k hk).1
                      have hg' : Good C e a w' := ⟨hg.below.trans hb, hg.defers, hg.size, hg.inj, fun b k h => ⟨(hg.own b k h).1, by rw [r4.size]; exact (hg.own b k h).2⟩⟩
                      refine hP e _ w' (Ext.refl e) (fun _ _ => .inl) (fun _ _ => .inl) (hg'.put dst undef) ?_ ?_
                      · intro key y hm
                        rcases List.mem_append.1 hm with hm | hm
                        · exact putW_holds hg' hp rfl key y hm
                        · obtain ⟨j, c, h8, rfl, rfl⟩ := cellsW_mem hm
                          obtain ⟨z, h9, h10⟩ := hcs.get j c h8
                          exact ⟨k, cs', ty, z, hk, r2, r5 j z h9, h10⟩
                      · intro key y hh hn
                        obtain ⟨hn1, hn2⟩ := find_append_none hn
                        refine holds.put (putW_none hp hn1) ?_
                        cases key <;> cases y <;> try exact hh
                        · rename_i b' o' c'
                          obtain ⟨k', cs1, ty1, z, q1, q2, q3, q4⟩ := hh
                          by_cases hkk : k' = k
                          · subst hkk
                            have hbb := hg.inj _ _ _ q1 hk
                            subst hbb
                            rw [h2] at q2
                            injection q2 with q2
                            injection q2 with q2 _ _
                            subst q2
                            refine ⟨k', cs', ty, z, q1, r2, ?_, q4⟩
                            rw [r6 o' (by rw [hlen]; have := cellsW_find hn2; omega)]
                            exact q3
                          · exact ⟨k', cs1, ty1, z, q1, (r4.block k' hkk).trans q2, q3, q4⟩
                        · rename_i b' ty' n'
                          obtain ⟨k', cs1, q1, q2, q3⟩ := hh
                          by_cases hkk : k' = k
                          · subst hkk
                            rw [h2] at q2
                            injection q2 with q2
                            injection q2 with q2 q2' _
                            subst q2; subst q2'
                            exact ⟨k', cs', q1, r2, r3.trans q3⟩
                          · exact ⟨k', cs1, q1, (r4.block k' hkk).trans q2, q3⟩
                        · obtain ⟨f, q1, q2⟩ := hh
                          exact ⟨f, q1, hC.only _ _ _ k f cs ty (hg.own b k hk).1 h2 (elemN_mem hty) (fun z hz => by
                            rw [h6] at hz
                            injection hz with hz; subst hz
                            exact noSlA_is hC hV hns h7) (by rw [h3]; exact hfull) r4 q2⟩
                  · cases hu
              · cases hu
        · cases hu
theorem litOp_is (hg : Good C e a w) {dst : Option Tmp} {s : Sem Value} (hu : litOp C.toStat dst s = some ws) (hP : Post C e a w id ws K) : ∃ v, s.run C.P w = .ok v w ∧ K (a.put dst v) w := by
  unfold litOp at hu
  split at hu
  · rename_i v hv
    exact ⟨v, ev_run hv w, hP.value hg hu rfl⟩
  · cases hu
theorem CsAre.drop {e : Env} : ∀ {n : Nat} {cs : List AC} {vs : List Value}, CsAre e cs vs → CsAre e (cs.drop n) (vs.drop n)
  | 0, _, _, h => h
  | n + 1, [], vs, h => by rw [h]; rfl
  | n + 1, c :: cs, _, ⟨v, ws, h1, _, h3⟩ => by rw [h1]; exact h3.drop
theorem CsAre.take {e : Env} : ∀ {n : Nat} {cs : List AC} {vs : List Value}, CsAre e cs vs → CsAre e (cs.take n) (vs.take n)
  | 0, _, _, h => rfl
  | n + 1, [], vs, h => by rw [h]; rfl
  | n + 1, c :: cs, _, ⟨v, ws, h1, h2, h3⟩ => ⟨v, ws.take n, by rw [h1]; rfl, h2, h3.take⟩
theorem fieldOf_run {P : Program} {s f : Nat} {fl : Field} (h : fieldOf P s f = some fl) : ∃ fs, P.underlying s = some (.struct fs) ∧ fs[f]? = some fl := by
  unfold fieldOf at h
  split at h
  · exact ⟨_, by assumption, h⟩
  · cases h
theorem run_newVar (P : Program) (t : TypeId) (v : Value) : (newVar t v).run P w = .ok ⟨w.heap.size, 0, none⟩ { w with heap := w.heap.push (.cells v.cells t) } := by
  simp [newVar, newRow]
theorem set_run (off : Nat) : ∀ (vs : List Value) (cells : Array Value) (j : Nat), off + j + vs.length ≤ cells.size →
    ((vs.zipIdx j).foldl (fun cs (c, j) => cs.setIfInBounds (off + j) c) cells).toList = cells.toList.take (off + j) ++ vs ++ cells.toList.drop (off + j + vs.length)
  | [], cells, j, h => by simp
  | v :: vs, cells, j, h => by
    simp only [List.length_cons] at h
    rw [List.zipIdx_cons, List.foldl_cons, set_run off vs _ (j + 1) (by simp; omega)]
    have hlt : off + j < cells.size := by omega
    simp only [Array.toList_setIfInBounds, List.length_cons]
    rw [show off + (j + 1) = off + j + 1 by omega, show off + j + 1 + vs.length = off + j + (vs.length + 1) by omega]
    rw [List.take_set, List.drop_set_of_lt (by omega)]
    have hlen : off + j < cells.toList.length := by simpa using hlt
    rw [List.take_succ_eq_append_getElem hlen]
    have hl : (cells.toList.take (off + j)).length = off + j := by simp; omega
    rw [List.set_append_right _ _ (by omega), hl]
    simp
theorem fillA_is (hC : C.Ok) (hV : Knows C e a w V) {fs : List Field} {place : Nat → Option (Nat × Nat)} (hp : ∀ (j : Nat) (f : Field) (inf : TypeInfo), fs[j]? = some f → C.P.info? f.type = some inf → place j = some (f.offset, inf.size)) :
    ∀ {parts : List (Nat × Operand)} {cs ds : List AC} {z : Array Value}, fillA C.toStat V fs parts cs = some ds → CsAre e cs z.toList → ∃ us, CsAre e ds us ∧ Instr.fill place z (parts.map fun (i, x) => (i, a.eval x)) = some us.toArray
  | [], cs, ds, z, h, hz => by
    simp [fillA] at h; subst h
    exact ⟨z.toList, hz, by simp [Instr.fill]⟩
  | (i, x) :: l, cs, ds, z, h, hz => by
    unfold fillA at h
    split at h
    · rename_i f hf
      split at h
      · rename_i j hj
        split at h
        · rename_i y hy
          split at h
          · rename_i hall
            split at h
            · rename_i hsz
              split at h
              · rename_i hle
                have hx := A1.cells_are hC hV (opnd_is hV hy) hall
                have hlen : (a.eval x).cells.toList.length = y.cells.length := hx.length
                have hzl : z.toList.length = cs.length := hz.length
                have hle := Nat.le_of_ble_eq_true hle
                have hsz := Nat.eq_of_beq_eq_true hsz
                have hls : (a.eval x).cells.size = y.cells.length := by simpa using hlen
                have hzs : z.size = cs.length := by simpa using hzl
                let z' := ((a.eval x).cells.toList.zipIdx 0).foldl (fun cs (c, j) => cs.setIfInBounds (f.offset + j) c) z
                have hz' : z'.toList = z.toList.take f.offset ++ (a.eval x).cells.toList ++ z.toList.drop (f.offset + y.cells.length) := by
                  have := set_run f.offset (a.eval x).cells.toList z 0 (by rw [hlen, hzs]; omega)
                  simp only [Nat.add_zero, hlen] at this
                  exact this
                obtain ⟨us, h1, h2⟩ := fillA_is hC hV hp (z := z') h (by rw [hz']; exact (hz.take.append hx).append hz.drop)
                refine ⟨us, h1, ?_⟩
                simp only [List.map_cons, Instr.fill, hp i f j hf hj]
                rw [if_neg (by simp only [Bool.or_eq_true, decide_eq_true_eq]; omega)]
                have e1 : ((a.eval x).cells.zipIdx.foldl (fun cs (c, j) => cs.setIfInBounds (f.offset + j) c) z) = z' := by
                  rw [← Array.foldl_toList]
                  simp [z', Array.toList_zipIdx]
                rw [e1]
                exact h2
              · cases h
            · cases h
          · cases h
        · cases h
      · cases h
    · cases h
theorem buildA_is (hC : C.Ok) (hV : Knows C e a w V) {z n : Nat} : ∀ {parts : List (Nat × Operand)} {j : Nat} {cs : List AC}, buildA C.toStat V z n j parts = some cs →
    ∃ vs : List Value, vs.length = parts.length ∧ (∀ v ∈ vs, v.cells.size = z) ∧ (parts.map fun (i, x) => (i, a.eval x)) = ((vs.zipIdx j).map fun x => (x.2, x.1)) ∧ ∃ us, CsAre e cs us ∧ (vs.flatMap fun v => v.cells.toList) = us
  | [], j, cs, h => by
    simp [buildA] at h; subst h
    exact ⟨[], rfl, fun v h => by simp at h, rfl, [], rfl, rfl⟩
  | (i, x) :: l, j, cs, h => by
    unfold buildA at h
    split at h
    · rename_i hij
      split at h
      · rename_i y hy
        split at h
        · rename_i hall
          split at h
          · rename_i hsz
            split at h
            · rename_i ds hds
              injection h with h; subst h
              have hx := A1.cells_are hC hV (opnd_is hV hy) hall
              obtain ⟨vs, h1, h2, h3, us, h4, h5⟩ := buildA_is hC hV hds
              refine ⟨a.eval x :: vs, by simp [h1], ?_, ?_, (a.eval x).cells.toList ++ us, hx.append h4, by simp [h5]⟩
              · intro v hv
                rcases List.mem_cons.1 hv with rfl | hv
                · have := hx.length
                  simp only [Array.length_toList] at this
                  rw [this, Nat.eq_of_beq_eq_true hsz]
                · exact h2 v hv
              · rw [List.map_cons, h3, List.zipIdx_cons, List.map_cons, Nat.eq_of_beq_eq_true hij]
            · cases h
          · cases h
        · cases h
      · cases h
    · cases h
set_option maxHeartbeats 1000000 in
theorem stepOp_is (hC : C.Ok) (hT : ∀ t ∈ T, t.Valid C) (hV : Knows C e a w V) (hg : Good C e a w) (hf : e.ρ id = none) (hn : ∀ x, x / 8 = id → e.ν x = none)
    (hu : stepOp C.toStat T V id o = some ws) (hP : Post C e a w id ws K) : o.wp C.P a w K Q := by
  unfold stepOp at hu
  split at hu
  · rename_i x ho
    split at hu
    · rename_i v hv
      exact wp_of_value (by simp [execOp, ho]) (hP.value hg hu (opnd_is hV hv))
    · cases hu
  · rename_i x ho
    split at hu
    · rename_i v hv
      exact wp_of_value (by simp [execOp, ho]) (hP.value hg hu (opnd_is hV hv))
    · cases hu
  · rename_i c x y ho
    split at hu
    · rename_i hc
      have hc := lit_is hV hc
      split at hu
      · rename_i v hv
        exact wp_of_value (v := a.eval x) (by simp [execOp, ho, hc, asBool]) (hP.value hg hu (opnd_is hV hv))
      · cases hu
    · rename_i hc
      have hc := lit_is hV hc
      split at hu
      · rename_i v hv
        exact wp_of_value (v := a.eval y) (by simp [execOp, ho, hc, asBool]) (hP.value hg hu (opnd_is hV hv))
      · cases hu
    · cases hu
  · rename_i t ho
    split at hu
    · rename_i i hi
      split at hu
      · rename_i z hz
        refine wp_of_value' (v := .pointer (some ⟨w.heap.size, 0, none⟩)) (w' := { w with heap := w.heap.push (.cells z.cells t) }) ?_ ?_
        · simp [execOp, ho, Instr.alloc, zeroValue, typeInfo, hi, hz, run_newVar]
        · have := hP.new hC hg hf hu (lits_are e z.cells.toList)
          simpa using this
      · cases hu
    · cases hu
  · rename_i t x ho
    split at hu
    · rename_i y hy
      split at hu
      · rename_i hs
        have hx := opnd_is hV hy
        refine wp_of_value' (v := .pointer (some ⟨w.heap.size, 0, none⟩)) (w' := { w with heap := w.heap.push (.cells (a.eval x).cells t) }) ?_ ?_
        · simp [execOp, ho, Instr.box, run_newVar]
        · have := hP.new hC hg hf hu (A1.cells_are hC hV hx hs)
          simpa using this
      · cases hu
    · cases hu
  · rename_i t parts ho
    split at hu
    · rename_i i hi
      split at hu
      · rename_i z hz
        split at hu
        · rename_i fs hfs
          split at hu
          · rename_i hall
            split at hu
            · rename_i cs hcs
              have hm : ∀ (l : List Field), (l.all fun f => (C.P.info? f.type).isSome) = true → ∃ r, (l.mapM (m := Sem) fun f => Prod.mk f.offset <$> sizeOf f.type).run C.P w = .ok r w ∧ ∀ (j : Nat) (f : Field) (inf : TypeInfo), l[j]? = some f → C.P.info? f.type = some inf → r[j]? = some (f.offset, inf.size) := by
                intro l
                induction l with
                | nil => intro _; exact ⟨[], by simp, fun j f inf h => by simp at h⟩
                | cons f l ih =>
                  intro hl
                  simp only [List.all_cons, Bool.and_eq_true] at hl
                  obtain ⟨r, hr, hr2⟩ := ih hl.2
                  obtain ⟨j, hj⟩ := Option.isSome_iff_exists.1 hl.1
                  refine ⟨(f.offset, j.size) :: r, by simp [List.mapM_cons, run_size hj, hr], ?_⟩
                  intro x g inf hx hinf
                  cases x with
                  | zero => simp at hx; subst hx; rw [hj] at hinf; injection hinf with hinf; subst hinf; rfl
                  | succ x => simpa using hr2 x g inf (by simpa using hx) hinf
              obtain ⟨r, hr, hr2⟩ := hm fs.toList hall
              obtain ⟨us, hus, hfill⟩ := fillA_is hC hV (z := z.cells) (place := fun i => r.toArray[i]?) (fun j f inf h1 h2 => by simpa using hr2 j f inf h1 h2) hcs (lits_are e z.cells.toList)
              refine wp_of_value (v := .agg us.toArray) ?_ (hP.value hg hu ⟨us, hus, rfl⟩)
              have hfill' : Instr.fill (fun i => r.toArray[i]?) z.cells (parts.map fun (i, x) => (i, a.eval x)).toList = some us.toArray := by
                rw [Array.toList_map]
                exact hfill
              simp only [execOp, ho, Instr.build, zeroValue, typeInfo, underlying, Sem.run_bind, run_program, Result.andThen_ok, hi, hz, hfs, Sem.run_pure, Array.mapM_eq_mapM_toList, Sem.run_map]
              rw [show (fun (f : Field) => (do let __do_lift ← sizeOf f.type; pure (f.offset, __do_lift) : Sem (Nat × Nat))) = (fun f => Prod.mk f.offset <$> sizeOf f.type) from rfl]
              simp only [hr, Result.andThen_ok]
              rw [hfill']
              rfl
            · cases hu
          · cases hu
        · cases hu
      · cases hu
    · cases hu
  · rename_i t x ho
    split at hu
    · rename_i b p hb
      obtain ⟨k, hk, hx⟩ := ptr_is hV hb
      split at hu
      · rename_i y hy
        obtain ⟨v, h1, h2⟩ := loadA_run hV hk hy
        exact wp_of_value (v := v) (by simp [execOp, ho, hx, Instr.loadAt, Instr.sureAddr, h1]) (hP.value hg hu h2)
      · cases hu
    · exact useEnt_op hC hT hV hg hn (by simp [opHd, ho]) (by intro f; simp) hu hP
  · rename_i t x y ho
    split at hu
    · rename_i b p hb
      obtain ⟨k, hk, hx⟩ := ptr_is hV hb
      split at hu
      · rename_i z hz
        obtain ⟨w', h1, h2⟩ := storeW_is hC hV hg hk (opnd_is hV hz) hu hP
        unfold Oper.wp
        have : (execOp a.eval o).run C.P w = .ok .skip w' := by simp [execOp, ho, hx, Instr.storeAt, Instr.sureAddr, h1]
        rw [this]
        exact h2
      · cases hu
    · cases hu
  · rename_i x ho
    split at hu
    · rename_i b p hb
      obtain ⟨k, hk, hx⟩ := ptr_is hV hb
      exact wp_of_value (v := .pointer (some ⟨k, p, none⟩)) (by simp [execOp, ho, hx]) (hP.value hg hu ⟨k, hk, rfl⟩)
    · cases hu
  · rename_i op t x y u ho
    split at hu
    · rename_i vx vy h1 h2
      have h1 := lit_is hV h1
      have h2 := lit_is hV h2
      obtain ⟨v, h3, h4⟩ := litOp_is hg hu hP
      refine wp_of_value (v := v) ?_ h4
      simp only [execOp, ho, h1, h2, Sem.run_bind]
      simp only [Sem.run_bind] at h3
      rw [h3]
      rfl
    · exact useEnt_op hC hT hV hg hn (by simp [opHd, ho]) (by intro f; simp) hu hP
  · rename_i op t x ho
    split at hu
    · rename_i vx h1
      have h1 := lit_is hV h1
      obtain ⟨v, h3, h4⟩ := litOp_is hg hu hP
      exact wp_of_value (v := v) (by simp [execOp, ho, h1, h3]) h4
    · exact useEnt_op hC hT hV hg hn (by simp [opHd, ho]) (by intro f; simp) hu hP
  · rename_i s d x ho
    split at hu
    · rename_i vx h1
      have h1 := lit_is hV h1
      obtain ⟨v, h3, h4⟩ := litOp_is hg hu hP
      exact wp_of_value (v := v) (by simp [execOp, ho, h1, h3]) h4
    · exact useEnt_op hC hT hV hg hn (by simp [opHd, ho]) (by intro f; simp) hu hP
  · rename_i t x lo hi mx ho
    exact useEnt_op hC hT hV hg hn (by simp [opHd, ho]) (by intro f; simp) hu hP
  · rename_i t l c ho
    exact useEnt_op hC hT hV hg hn (by simp [opHd, ho]) (by intro f; simp) hu hP
  · rename_i t x i ho
    exact useEnt_op hC hT hV hg hn (by simp [opHd, ho]) (by intro f; simp) hu hP
  · rename_i s x f ho
    split at hu
    · rename_i b p hb
      obtain ⟨k, hk, hx⟩ := ptr_is hV hb
      split at hu
      · rename_i fl hfl
        obtain ⟨fs, h1, h2⟩ := fieldOf_run hfl
        split at hu
        · rename_i i hi
          split at hu
          · cases hu
          · rename_i n hsz
            refine wp_of_value (v := .pointer (some ⟨k, p + fl.offset, none⟩)) ?_ (hP.value hg hu ⟨k, hk, rfl⟩)
            simp [execOp, ho, hx, Instr.fieldAt, underlying, h1, h2, Instr.sureAddr, fieldPlace, run_size hi, hsz, addr_add]
        · cases hu
      · cases hu
    · cases hu
  · rename_i t x f ho
    split at hu
    · rename_i cs hcs
      obtain ⟨vs, hvs, hx⟩ := opnd_is hV hcs
      split at hu
      · rename_i fl hfl
        obtain ⟨fs, h1, h2⟩ := fieldOf_run hfl
        split at hu
        · rename_i d hd
          split at hu
          · rename_i hagg
            split at hu
            · rename_i i hi
              refine wp_of_value (v := .agg ((vs.drop fl.offset).take i.size).toArray) ?_ (hP.value hg hu ⟨_, hvs.drop.take, rfl⟩)
              have hxx : vs.toArray.extract fl.offset (fl.offset + i.size) = ((vs.drop fl.offset).take i.size).toArray := by
                simp [List.extract_eq_take_drop]
              simp [execOp, ho, hx, Instr.field, underlying, h1, h2, asAgg, part, run_isAggD hd, hagg, run_size hi, List.extract_eq_take_drop]
            · cases hu
          · rename_i hagg
            split at hu
            · rename_i c hc
              obtain ⟨v, h3, h4⟩ := hvs.get _ _ hc
              refine wp_of_value (v := v) ?_ (hP.value hg hu h4)
              simp [execOp, ho, hx, Instr.field, underlying, h1, h2, asAgg, part, run_isAggD hd, hagg, h3]
            · cases hu
        · cases hu
      · cases hu
    · cases hu
  · rename_i x i ho
    split at hu
    · rename_i l hl
      obtain ⟨vs, hvs, hx⟩ := opnd_is hV hl
      split at hu
      · rename_i y hy
        obtain ⟨v, h3, h4⟩ := hvs.get _ _ hy
        refine wp_of_value (v := v) ?_ (hP.value hg hu h4)
        simp [execOp, ho, hx, Instr.extract, h3]
      · cases hu
    · cases hu
  · rename_i t n parts ho
    split at hu
    · rename_i ws1 hws
      injection hu with hu; subst hu
      unfold entBs at hws
      split at hws
      · rename_i hp
        refine useEnt_op hC hT hV hg hn ?_ (by intro f; simp) hws hP
        have := partsIn_is hp
        rw [← List.range_eq_range'] at this
        simp [opHd, ho, this]
      · cases hws
    · unfold bsW at hu
      split at hu
      · rename_i el hel
        split at hu
        · rename_i i hi
          split at hu
          · rename_i z0 hz0
            split at hu
            · cases hu
            · rename_i z hz
              split at hu
              · cases hu
              · rename_i hle
                split at hu
                · cases hu
                · rename_i hpos
                  split at hu
                  · rename_i cs hcs
                    split at hu
                    · rename_i hlen
                      split at hu
                      · rename_i ws1 hnb
                        injection hu with hu; subst hu
                        have hle := Nat.le_of_ble_eq_true hle
                        have hpos := blt_lt hpos
                        have hlen := Nat.eq_of_beq_eq_true hlen
                        obtain ⟨vs, h1, h2, h3, us, h4, h5⟩ := buildA_is hC hV hcs
                        refine wp_of_value' (v := .slice (some ⟨w.heap.size, 0, none⟩) n n) (w' := { w with heap := w.heap.push (.cells us.toArray el) }) ?_ (hP.newV hC hg hf (p := .slc id 0 n n) (fun e' he => ⟨_, he, rfl⟩) hnb h4)
                        have hf : Instr.fill (fun j => some (j * i.size, i.size)) ((Array.range (n * i.size)).map (z0.cells[· % z0.cells.size]!)) (parts.map fun (j, x) => (j, a.eval x)).toList = some us.toArray := by
                          rw [Array.toList_map, h3]
                          have := Great.fill_whole (s := i.size) (by omega) vs ((Array.range (n * i.size)).map (z0.cells[· % z0.cells.size]!)) (fun v hv => by rw [hz]; exact h2 v hv) (by rw [h1, hlen]; simp)
                          rw [this, h5]
                        have := run_buildSlice w t el n (parts.map fun (j, x) => (j, a.eval x)) _ i z0 hel hi hz0 (by rw [hz]; show ¬ n * (z + 1) > 2 ^ 24; omega) (by rw [hz]; exact Nat.mul_ne_zero (by omega) (by omega)) hf
                        simp only [execOp, ho, Sem.run_bind, this, Result.andThen_ok]
                        rfl
                      · cases hu
                    · cases hu
                  · cases hu
          · cases hu
        · cases hu
      · cases hu
  · rename_i t x i ho
    split at hu
    · rename_i b p n j el hb hj hel
      obtain ⟨k, c, hk, hx⟩ := slc_is hV hb
      have hi := lit_is hV hj
      split at hu
      · rename_i hlt
        have hlt := blt_lt hlt
        split at hu
        · rename_i inf hinf
          refine wp_of_value (v := .pointer (some ⟨k, p + j * inf.size, none⟩)) ?_ (hP.value hg hu ⟨k, hk, rfl⟩)
          have h0 : (0 : Int) ≤ Int.ofNat j ∧ Int.ofNat j < n := ⟨Int.natCast_nonneg j, Int.ofNat_lt.2 hlt⟩
          simp only [execOp, ho, hx, hi, Instr.indexAt, asIntOf, underlying, Sem.run_bind, Sem.run_pure, run_program, Result.andThen_ok, hel, if_pos h0, run_size hinf, addr_add]
          rfl
        · cases hu
      · cases hu
    · exact useEnt_op hC hT hV hg hn (by simp [opHd, ho]) (by intro f; simp) hu hP
  · rename_i c ho
    split at hu
    · rename_i fo hcal
      split at hu
      · rename_i f hfo
        exact useEnt_call hC hT hV hg hn ho hcal (opnd_is hV hfo) hu hP
      · cases hu
    · rename_i b hcal
      exact useEnt_op hC hT hV hg hn (by simp [opHd, ho, hcal]) (by intro f; simp) hu hP
    · cases hu
  · cases hu
end
def preOf (pres : List Nat) : List Edge → Nat
  | [] => 0
  | ed :: l => match Region.binds .any ed with
    | true => 2 ^ ed.on ||| pres.getD ed.on 0 ||| preOf pres l
    | false => preOf pres l
def presGo : List Nat → List Oper → List Nat
  | acc, [] => acc
  | acc, o :: l => presGo (acc ++ [preOf acc o.after.toList]) l
theorem preOf_bit {pres : List Nat} {j : Nat} : ∀ {l : List Edge}, (preOf pres l).testBit j = true → ∃ ed ∈ l, Region.binds .any ed = true ∧ (ed.on = j ∨ (pres.getD ed.on 0).testBit j = true)
  | [], h => by simp [preOf] at h
  | ed :: l, h => by
    unfold preOf at h
    split at h
    · rename_i hb
      simp only [Nat.testBit_or, Bool.or_eq_true] at h
      rcases h with (h | h) | h
      · rw [Nat.testBit_two_pow] at h
        exact ⟨ed, by simp, hb, .inl (by simpa using h)⟩
      · exact ⟨ed, by simp, hb, .inr h⟩
      · obtain ⟨d, h1, h2⟩ := preOf_bit h
        exact ⟨d, List.mem_cons_of_mem _ h1, h2⟩
    · obtain ⟨d, h1, h2⟩ := preOf_bit h
      exact ⟨d, List.mem_cons_of_mem _ h1, h2⟩
theorem presGo_prefix : ∀ (l : List Oper) (acc : List Nat), ∃ r, presGo acc l = acc ++ r ∧ r.length = l.length
  | [], acc => ⟨[], by simp [presGo], rfl⟩
  | o :: l, acc => by
    obtain ⟨r, h1, h2⟩ := presGo_prefix l (acc ++ [preOf acc o.after.toList])
    exact ⟨preOf acc o.after.toList :: r, by simp [presGo, h1], by simp [h2]⟩
theorem presGo_spec : ∀ (l : List Oper) (acc : List Nat) (i : Nat) (o : Oper), l[i]? = some o → ∀ j, ((presGo acc l).getD (acc.length + i) 0).testBit j = true →
    ∃ ed ∈ o.after.toList, Region.binds .any ed = true ∧ (ed.on = j ∨ ((presGo acc l).getD ed.on 0).testBit j = true)
  | [], acc, i, o, h, j, hj => by simp at h
  | o' :: l, acc, 0, o, h, j, hj => by
    simp at h; subst h
    obtain ⟨r, h1, h2⟩ := presGo_prefix l (acc ++ [preOf acc o'.after.toList])
    have h3 : presGo acc (o' :: l) = acc ++ (preOf acc o'.after.toList :: r) := by simp [presGo, h1]
    rw [h3] at hj ⊢
    simp at hj
    obtain ⟨ed, h4, h5, h6⟩ := preOf_bit hj
    refine ⟨ed, h4, h5, h6.imp (fun h => h) fun h6 => ?_⟩
    have hlt : ed.on < acc.length := by
      rcases Nat.lt_or_ge ed.on acc.length with h | h
      · exact h
      · simp [List.getD, List.getElem?_eq_none h] at h6
    simpa [List.getD, List.getElem?_append_left hlt] using h6
  | o' :: l, acc, i + 1, o, h, j, hj => by
    have := presGo_spec l (acc ++ [preOf acc o'.after.toList]) i o (by simpa using h) j (by
      have h1 : acc.length + (i + 1) = (acc ++ [preOf acc o'.after.toList]).length + i := by simp; omega
      rw [← h1]
      exact hj)
    exact this
def keysOf : Ws → List Key
  | [] => []
  | (k, _) :: l => k :: keysOf l
def memK (k : Key) : List Key → Bool
  | [] => false
  | k' :: l => match k'.same k with
    | true => true
    | false => memK k l
def sameKs : List Key → List Key → Bool
  | [], [] => true
  | a :: l, b :: m => match a.same b with
    | true => sameKs l m
    | false => false
  | _, _ => false
theorem sameKs_eq : ∀ {l m : List Key}, sameKs l m = true → l = m
  | [], [], _ => rfl
  | [], _ :: _, h => by simp [sameKs] at h
  | _ :: _, [], h => by simp [sameKs] at h
  | a :: l, b :: m, h => by
    unfold sameKs at h
    split at h
    · rename_i hs
      rw [Key.same_iff.1 hs, sameKs_eq h]
    · cases h
theorem memK_false {k : Key} : ∀ {ws : Ws}, memK k (keysOf ws) = false → find k ws = none
  | [], _ => rfl
  | (k', v) :: l, h => by
    simp only [keysOf, memK] at h
    split at h
    · cases h
    · rename_i hs
      simp only [find, hs]
      exact memK_false h
theorem memK_true {k : Key} : ∀ {l : List Key}, memK k l = true ↔ k ∈ l
  | [] => by simp [memK]
  | k' :: l => by
    unfold memK
    split
    · rename_i hs
      rw [Key.same_iff.1 hs]
      simp
    · rename_i hs
      rw [memK_true]
      have : ¬ k = k' := by
        rintro rfl
        have := Key.same_iff.2 (rfl : k = k)
        rw [hs] at this
        cases this
      simp [this]
def viewGo (pres : List Nat) (acc : List Ws) (i pi : Nat) (k : Key) : List (List Key) → Nat → Option Kv → Option Kv
  | [], _, cur => cur
  | l :: K, j, cur => match memK k l with
    | false => viewGo pres acc i pi k K (j + 1) cur
    | true => match Nat.beq j i with
      | true => viewGo pres acc i pi k K (j + 1) cur
      | false => match pi.testBit j with
        | true => match acc[j]? with
          | some ws => viewGo pres acc i pi k K (j + 1) (find k ws)
          | none => none
        | false => match (pres.getD j 0).testBit i with
          | true => viewGo pres acc i pi k K (j + 1) cur
          | false => none
def viewAt (K : List (List Key)) (pres : List Nat) (acc : List Ws) (base : View) (i pi : Nat) : View := fun k => viewGo pres acc i pi k K 0 (base k)
def guarded (S : Stat) (T : List Ent) (ops : List Oper) (V : View) (id : Nat) (o : Oper) : Option Ws :=
  match o.guard with
  | none => stepOp S T V id o
  | some (j, want) => match ops[j]? with
    | some oj => match oj.dst with
      | some t => match lit? (opnd V (.tmp t)) with
        | some (.bool b) => match b, want with
          | true, true => stepOp S T V id o
          | false, false => stepOp S T V id o
          | _, _ => putW S.nt o.dst undefA
        | some (.tuple ⟨[]⟩) => putW S.nt o.dst undefA
        | _ => none
      | none => none
    | none => none
def look (S : Stat) (T : List Ent) (ops : List Oper) (pres : List Nat) (base : View) (nb : Nat) : List Oper → Nat → Ws → List (List Key) → Option (List (List Key))
  | [], _, _, K => some K.reverse
  | o :: l, i, m, K => match guarded S T ops (fun k => match find k m with
      | none => base k
      | some v => some v) (nb + i) o with
    | some ws => look S T ops pres base nb l (i + 1) (ws ++ m) (keysOf ws :: K)
    | none => none
def check (S : Stat) (T : List Ent) (ops : List Oper) (pres : List Nat) (base : View) (nb : Nat) (K : List (List Key)) : List Oper → Nat → List Ws → Option (List Ws)
  | [], _, acc => some acc
  | o :: l, i, acc => match guarded S T ops (viewAt K pres acc base i (pres.getD i 0)) (nb + i) o with
    | some ws => match sameKs (keysOf ws) (K.getD i []) with
      | true => check S T ops pres base nb K l (i + 1) (acc ++ [ws])
      | false => none
    | none => none
def oneAfter (pres : List Nat) (i : Nat) (k : Key) : List (List Key) → Nat → Bool
  | [], _ => true
  | l :: K, j => match memK k l with
    | false => oneAfter pres i k K (j + 1)
    | true => match (pres.getD j 0).testBit i with
      | true => oneAfter pres i k K (j + 1)
      | false => false
def keysAfter (pres : List Nat) (i : Nat) (K : List (List Key)) (j : Nat) : List Key → Bool
  | [] => true
  | k :: ks => match oneAfter pres i k K j with
    | true => keysAfter pres i K j ks
    | false => false
def chained (pres : List Nat) : List (List Key) → Nat → Bool
  | [], _ => true
  | ks :: K, i => match keysAfter pres i K (i + 1) ks with
    | true => chained pres K (i + 1)
    | false => false
def inOrder : List Oper → Nat → Bool
  | [], _ => true
  | o :: l, i => match o.after.toList.all (fun ed => match Region.binds .any ed with
      | true => Nat.blt ed.on i
      | false => true) with
    | true => inOrder l (i + 1)
    | false => false
structure St where
  nb : Nat
  m : Ws
def catW : List Ws → Ws → Ws
  | [], m => m
  | w :: l, m => catW l (w ++ m)
def region (S : Stat) (T : List Ent) (ops : List Oper) (st : St) : Option St :=
  match inOrder ops 0 with
  | false => none
  | true => match look S T ops (presGo [] ops) (fun k => find k st.m) st.nb ops 0 [] [] with
    | none => none
    | some K => match Nat.beq K.length ops.length with
      | false => none
      | true => match chained (presGo [] ops) K 0 with
        | false => none
        | true => match check S T ops (presGo [] ops) (fun k => find k st.m) st.nb K ops 0 [] with
          | some W => some ⟨st.nb + ops.length, catW W st.m⟩
          | none => none
theorem oneAfter_spec {pres : List Nat} {i : Nat} {k : Key} : ∀ {K : List (List Key)} {j : Nat}, oneAfter pres i k K j = true → ∀ (x : Nat) (l : List Key), K[x]? = some l → memK k l = true → (pres.getD (j + x) 0).testBit i = true
  | [], j, _, x, l, h, _ => by simp at h
  | y :: K, j, h, x, l, hx, hm => by
    unfold oneAfter at h
    split at h
    · rename_i hy
      cases x with
      | zero => simp at hx; subst hx; rw [hm] at hy; cases hy
      | succ x =>
        have := oneAfter_spec h x l (by simpa using hx) hm
        rw [show j + (x + 1) = j + 1 + x by omega]
        exact this
    · split at h
      · rename_i hb
        cases x with
        | zero => exact hb
        | succ x =>
          have := oneAfter_spec h x l (by simpa using hx) hm
          rw [show j + (x + 1) = j + 1 + x by omega]
          exact this
      · cases h
theorem keysAfter_spec {pres : List Nat} {i : Nat} {K : List (List Key)} {j : Nat} : ∀ {ks : List Key}, keysAfter pres i K j ks = true → ∀ k ∈ ks, oneAfter pres i k K j = true
  | [], _, k, hk => by simp at hk
  | x :: ks, h, k, hk => by
    unfold keysAfter at h
    split at h
    · rename_i hx
      rcases List.mem_cons.1 hk with rfl | hk
      · exact hx
      · exact keysAfter_spec h k hk
    · cases h
theorem chained_spec {pres : List Nat} : ∀ {K : List (List Key)} {i : Nat}, chained pres K i = true → ∀ (x : Nat) (ks : List Key), K[x]? = some ks → ∀ k ∈ ks, ∀ (y : Nat) (l : List Key), x < y → K[y]? = some l → memK k l = true → (pres.getD (i + y) 0).testBit (i + x) = true
  | [], i, _, x, ks, hx, k, hk, y, l, hxy, hy, hm => by simp at hx
  | z :: K, i, h, x, ks, hx, k, hk, y, l, hxy, hy, hm => by
    unfold chained at h
    split at h
    · rename_i hz
      cases y with
      | zero => omega
      | succ y =>
        have hy' : K[y]? = some l := by simpa using hy
        cases x with
        | zero =>
          simp at hx; subst hx
          have := oneAfter_spec (keysAfter_spec hz k hk) y l hy' hm
          rw [show i + (y + 1) = i + 1 + y by omega]
          exact this
        | succ x =>
          have := chained_spec h x ks (by simpa using hx) k hk y l (by omega) hy' hm
          rw [show i + (y + 1) = i + 1 + y by omega, show i + (x + 1) = i + 1 + x by omega]
          exact this
    · cases h
theorem inOrder_spec : ∀ {l : List Oper} {i : Nat}, inOrder l i = true → ∀ j o, l[j]? = some o → ∀ ed ∈ o.after, Region.binds .any ed = true → ed.on < i + j
  | [], i, _, j, o, hj => by simp at hj
  | x :: l, i, h, j, o, hj => by
    unfold inOrder at h
    split at h
    · rename_i hx
      cases j with
      | zero =>
        simp at hj; subst hj
        intro ed hed hb
        have := List.all_eq_true.1 hx ed (by simpa using hed)
        simp only [hb] at this
        simpa using blt_lt this
      | succ j =>
        have := inOrder_spec h j o (by simpa using hj)
        rw [show i + (j + 1) = i + 1 + j by omega]
        exact this
    · cases h
theorem check_spec {S : Stat} {T : List Ent} {ops : List Oper} {pres : List Nat} {base : View} {nb : Nat} {K : List (List Key)} : ∀ {l : List Oper} {i : Nat} {acc W : List Ws}, acc.length = i → check S T ops pres base nb K l i acc = some W →
    (∃ r, W = acc ++ r) ∧ W.length = i + l.length ∧ ∀ j o, l[j]? = some o → ∃ ws, W[i + j]? = some ws ∧ guarded S T ops (viewAt K pres (W.take (i + j)) base (i + j) (pres.getD (i + j) 0)) (nb + (i + j)) o = some ws ∧ keysOf ws = K.getD (i + j) []
  | [], i, acc, W, ha, h => by
    simp [check] at h; subst h
    exact ⟨⟨[], by simp⟩, by simp [ha], fun j o hj => by simp at hj⟩
  | o' :: l, i, acc, W, ha, h => by
    unfold check at h
    split at h
    · rename_i ws hws
      split at h
      · rename_i hk
        obtain ⟨⟨r, h1⟩, h2, h3⟩ := check_spec (i := i + 1) (by simp [ha]) h
        refine ⟨⟨ws :: r, by simp [h1]⟩, by simp [h2]; omega, fun j o hj => ?_⟩
        cases j with
        | zero =>
          simp at hj; subst hj
          refine ⟨ws, ?_, ?_, sameKs_eq hk⟩
          · rw [h1, ← ha]; simp
          · have : W.take (i + 0) = acc := by rw [h1, ← ha]; simp
            rw [this]
            exact hws
        | succ j =>
          have := h3 j o (by simpa using hj)
          rw [show i + (j + 1) = i + 1 + j by omega]
          exact this
      · cases h
    · cases h
section
variable {C : Ctx} {T : List Ent} {ops : Array Oper} {Q : Exit → Act → World → Prop} {base : View} {nb : Nat} {K : List (List Key)} {W : List Ws}
def seenGo (W : List Ws) (l : Array Bool) (k : Key) : List (List Key) → Nat → Option Kv → Option Kv
  | [], _, cur => cur
  | ks :: K, j, cur => match memK k ks with
    | false => seenGo W l k K (j + 1) cur
    | true => match l.getD j false with
      | true => match W[j]? with
        | some ws => seenGo W l k K (j + 1) (find k ws)
        | none => seenGo W l k K (j + 1) none
      | false => seenGo W l k K (j + 1) cur
def seen (K : List (List Key)) (W : List Ws) (base : View) (l : Array Bool) : View := fun k => seenGo W l k K 0 (base k)
theorem view_seen {pres : List Nat} {l : Array Bool} {i pi : Nat} {k : Key} (hi : l.getD i false = false) (hpi : ∀ j, pi.testBit j = true → l.getD j false = true) (hpr : ∀ j, (pres.getD j 0).testBit i = true → l.getD j false = false) {n : Nat} :
    ∀ {K : List (List Key)} {j : Nat} {c c' : Option Kv} {v : Kv}, (∀ v, c = some v → c' = some v) → viewGo pres (W.take n) i pi k K j c = some v → seenGo W l k K j c' = some v
  | [], j, c, c', v, hc, h => hc v h
  | x :: K, j, c, c', v, hc, h => by
    cases hm : memK k x with
    | false =>
      simp only [viewGo, hm] at h
      simp only [seenGo, hm]
      exact view_seen hi hpi hpr hc h
    | true =>
      simp only [viewGo, hm] at h
      simp only [seenGo, hm]
      cases hji : Nat.beq j i with
      | true =>
        simp only [hji] at h
        have hji := Nat.eq_of_beq_eq_true hji
        subst hji
        simp only [hi]
        exact view_seen hi hpi hpr hc h
      | false =>
        simp only [hji] at h
        cases hb : pi.testBit j with
        | true =>
          simp only [hb] at h
          simp only [hpi j hb]
          cases hws : (W.take n)[j]? with
          | none => simp [hws] at h
          | some ws =>
            simp only [hws] at h
            have : W[j]? = some ws := by
              rw [List.getElem?_take] at hws
              split at hws
              · exact hws
              · cases hws
            simp only [this]
            exact view_seen hi hpi hpr (fun _ h => h) h
        | false =>
          simp only [hb] at h
          cases hb2 : (pres.getD j 0).testBit i with
          | true =>
            simp only [hb2] at h
            simp only [hpr j hb2]
            exact view_seen hi hpi hpr hc h
          | false => rw [hb2] at h; cases h
theorem seen_keep {l l' : Array Bool} {k : Key} : ∀ {K : List (List Key)} {j : Nat} {c : Option Kv}, (∀ (x : Nat) (ks : List Key), K[x]? = some ks → memK k ks = true → l'.getD (j + x) false = l.getD (j + x) false) → seenGo W l' k K j c = seenGo W l k K j c
  | [], j, c, h => rfl
  | y :: K, j, c, h => by
    unfold seenGo
    have hr : ∀ c, seenGo W l' k K (j + 1) c = seenGo W l k K (j + 1) c := fun c => seen_keep (fun x ks hx hm => by
      have := h (x + 1) ks (by simpa using hx) hm
      rw [show j + 1 + x = j + (x + 1) by omega]
      exact this)
    cases hm : memK k y with
    | false => exact hr c
    | true =>
      have h0 := h 0 y (by simp) hm
      simp only [Nat.add_zero] at h0
      simp only [h0]
      split
      · split <;> exact hr _
      · exact hr c
theorem seen_none {l : Array Bool} {k : Key} : ∀ {K : List (List Key)} {j : Nat} {c : Option Kv}, (∀ (x : Nat) (ks : List Key), K[x]? = some ks → memK k ks = true → l.getD (j + x) false = false) → seenGo W l k K j c = c
  | [], j, c, h => rfl
  | y :: K, j, c, h => by
    unfold seenGo
    have hr : seenGo W l k K (j + 1) c = c := seen_none (fun x ks hx hm => by
      have := h (x + 1) ks (by simpa using hx) hm
      rw [show j + 1 + x = j + (x + 1) by omega]
      exact this)
    cases hm : memK k y with
    | false => exact hr
    | true =>
      have h0 := h 0 y (by simp) hm
      simp only [Nat.add_zero] at h0
      simp only [h0]
      exact hr
theorem seen_last {l : Array Bool} {k : Key} {ws : Ws} : ∀ {K : List (List Key)} {j i : Nat} {c : Option Kv} {ks : List Key}, K[i]? = some ks → memK k ks = true → l.getD (j + i) false = true → W[j + i]? = some ws →
    (∀ (x : Nat) (ks : List Key), i < x → K[x]? = some ks → memK k ks = true → l.getD (j + x) false = false) → seenGo W l k K j c = find k ws
  | [], j, i, c, ks, h, _, _, _, _ => by simp at h
  | y :: K, j, 0, c, ks, h, hm, hl, hw, hx => by
    simp at h; subst h
    unfold seenGo
    simp only [Nat.add_zero] at hl hw
    simp only [hm, hl, hw]
    exact seen_none (fun x ks h1 h2 => by
      have := hx (x + 1) ks (by omega) (by simpa using h1) h2
      rw [show j + 1 + x = j + (x + 1) by omega]
      exact this)
  | y :: K, j, i + 1, c, ks, h, hm, hl, hw, hx => by
    unfold seenGo
    have hr : ∀ c, seenGo W l k K (j + 1) c = find k ws := fun c => seen_last (i := i) (by simpa using h) hm (by rw [show j + 1 + i = j + (i + 1) by omega]; exact hl) (by rw [show j + 1 + i = j + (i + 1) by omega]; exact hw) (fun x ks h0 h1 h2 => by
      have := hx (x + 1) ks (by omega) (by simpa using h1) h2
      rw [show j + 1 + x = j + (x + 1) by omega]
      exact this)
    split
    · exact hr _
    · split
      · split <;> exact hr _
      · exact hr _
structure Inv (C : Ctx) (K : List (List Key)) (W : List Ws) (base : View) (nb : Nat) (pres : List Nat) (n : Nat) (l : Array Bool) (a : Act) (w : World) : Prop where
  size : l.size = n
  down : ∀ i, l.getD i false = true → ∀ j, (pres.getD i 0).testBit j = true → l.getD j false = true
  env : ∃ e, Knows C e a w (seen K W base l) ∧ Good C e a w ∧ (∀ b k, e.ρ b = some k → b < nb ∨ ∃ i, b = nb + i ∧ l.getD i false = true) ∧ (∀ s f, e.ν s = some f → s / 8 < nb ∨ ∃ i, s / 8 = nb + i ∧ l.getD i false = true)
theorem getD_set {l : Array Bool} {i j : Nat} (hi : i < l.size) : (l.setIfInBounds i true).getD j false = if j = i then true else l.getD j false := by
  simp only [Array.getD_eq_getD_getElem?, Array.getElem?_setIfInBounds]
  by_cases h : j = i
  · subst h; simp [hi]
  · rw [if_neg (fun e => h e.symm), if_neg h]
theorem yielded_of {a : Act} {oj : Oper} {j : Nat} {t : Tmp} {b : Bool} (ho : ops[j]? = some oj) (hd : oj.dst = some t) (he : a.eval (.tmp t) = .bool b) : yielded ops a.tmps j = some b := by
  unfold yielded
  simp only [ho, Option.bind_some, hd]
  simp only [Act.eval, Array.getD_eq_getD_getElem?] at he
  cases h : a.tmps[t]? with
  | none => rw [h] at he; simp [undef] at he
  | some x => rw [h] at he; simp at he; rw [he]
theorem Inv.step (hC : C.Ok) (hT : ∀ t ∈ T, t.Valid C) (hKl : Nat.beq K.length ops.toList.length = true) (hu : chained (presGo [] ops.toList) K 0 = true)
    (hck : check C.toStat T ops.toList (presGo [] ops.toList) base nb K ops.toList 0 [] = some W) {l : Array Bool} {a : Act} {w : World} {i : Nat} (hI : Inv C K W base nb (presGo [] ops.toList) ops.size l a w)
    (hi : l[i]? = some false) (hr : ∀ o, ops[i]? = some o → ∀ ed ∈ o.after, Region.binds .any ed = true → l.getD ed.on false = true) :
    wpOp C.P ops Q i (fun a' w' => Inv C K W base nb (presGo [] ops.toList) ops.size (l.setIfInBounds i true) a' w') a w := by
  obtain ⟨hsz, hdown, e, hk, hg, hρ, hν⟩ := hI
  have hil : i < l.size := by
    rcases Nat.lt_or_ge i l.size with h | h
    · exact h
    · simp [Array.getElem?_eq_none h] at hi
  have hfalse : l.getD i false = false := by simp [Array.getD_eq_getD_getElem?, hi]
  have hio : i < ops.size := by omega
  have ho : ops[i]? = some ops[i] := Array.getElem?_eq_getElem hio
  generalize ops[i] = o at ho
  have hol : ops.toList[i]? = some o := by simpa using ho
  obtain ⟨_, hWl, hW⟩ := check_spec (i := 0) rfl hck
  obtain ⟨ws, h1, h2, h3⟩ := hW i o hol
  simp only [Nat.zero_add] at h1 h2 h3 hWl
  have hKi : i < K.length := by
    have := Nat.eq_of_beq_eq_true hKl
    have : ops.toList.length = ops.size := by simp
    omega
  have hKi' : K[i]? = some (keysOf ws) := by
    rw [h3, List.getElem?_eq_getElem hKi]
    simp [List.getD, hKi]
  have hpre : ∀ j, ((presGo [] ops.toList).getD i 0).testBit j = true → l.getD j false = true := by
    intro j hj
    obtain ⟨ed, h4, h5, h6⟩ := presGo_spec ops.toList [] i o hol j (by simpa using hj)
    have h7 := hr o ho ed (by simpa using h4) h5
    rcases h6 with rfl | h6
    · exact h7
    · exact hdown ed.on h7 j h6
  have hpost : ∀ j, ((presGo [] ops.toList).getD j 0).testBit i = true → l.getD j false = false := by
    intro j hj
    cases hlj : l.getD j false with
    | false => rfl
    | true =>
      have := hdown j hlj i hj
      rw [hfalse] at this
      cases this
  have hV : Knows C e a w (viewAt K (presGo [] ops.toList) (W.take i) base i ((presGo [] ops.toList).getD i 0)) :=
    fun k v hkv => hk k v (view_seen hfalse hpre hpost (fun _ h => h) hkv)
  have hfr : e.ρ (nb + i) = none := by
    cases h : e.ρ (nb + i) with
    | none => rfl
    | some k =>
      rcases hρ _ _ h with h | ⟨i', h4, h5⟩
      · omega
      · have : i' = i := by omega
        subst this
        rw [hfalse] at h5
        cases h5
  have hfn : ∀ x, x / 8 = nb + i → e.ν x = none := by
    intro x hx
    cases h : e.ν x with
    | none => rfl
    | some k =>
      rcases hν _ _ h with h | ⟨i', h4, h5⟩
      · omega
      · have : i' = i := by omega
        subst this
        rw [hfalse] at h5
        cases h5
  have hP : Post C e a w (nb + i) ws (fun a' w' => Inv C K W base nb (presGo [] ops.toList) ops.size (l.setIfInBounds i true) a' w') := by
    intro e' a' w' hx hρ' hν' hg' hnew hframe
    refine ⟨by simpa using hsz, ?_, e', ?_, hg', ?_, ?_⟩
    · intro x hxl j hj
      rw [getD_set hil] at hxl ⊢
      by_cases hji : j = i
      · rw [if_pos hji]
      · rw [if_neg hji]
        by_cases hxi : x = i
        · subst hxi; exact hpre j hj
        · rw [if_neg hxi] at hxl; exact hdown x hxl j hj
    · intro k v hkv
      have hkv : seenGo W (l.setIfInBounds i true) k K 0 (base k) = some v := hkv
      cases hm : memK k (keysOf ws) with
      | true =>
        rw [seen_last (W := W) (K := K) (j := 0) (i := i) hKi' hm (by rw [Nat.zero_add, getD_set hil, if_pos rfl]) (by rw [Nat.zero_add]; exact h1) (fun x ks hx hks hmk => by
          rw [Nat.zero_add, getD_set hil, if_neg (by omega)]
          have := chained_spec hu i (keysOf ws) hKi' k (memK_true.1 hm) x ks hx hks hmk
          simp only [Nat.zero_add] at this
          exact hpost x this)] at hkv
        exact hnew k v (find_mem hkv)
      | false =>
        rw [seen_keep (W := W) (l := l) (fun x ks hx hmk => by
          rw [getD_set hil]
          split
          · rename_i hxi
            rw [Nat.zero_add] at hxi
            subst hxi
            rw [hKi'] at hx
            injection hx with hx; subst hx
            rw [hm] at hmk
            cases hmk
          · rfl)] at hkv
        exact hframe k v (hk k v hkv) (memK_false hm)
    · intro b k hb
      rcases hρ' b k hb with h | h
      · rcases hρ b k h with h | ⟨x, h4, h5⟩
        · exact .inl h
        · refine .inr ⟨x, h4, ?_⟩
          rw [getD_set hil]
          split
          · rfl
          · exact h5
      · exact .inr ⟨i, h, by rw [getD_set hil, if_pos rfl]⟩
    · intro s f hs
      rcases hν' s f hs with h | h
      · rcases hν s f h with h | ⟨x, h4, h5⟩
        · exact .inl h
        · refine .inr ⟨x, h4, ?_⟩
          rw [getD_set hil]
          split
          · rfl
          · exact h5
      · exact .inr ⟨i, h, by rw [getD_set hil, if_pos rfl]⟩
  unfold wpOp
  simp only [ho]
  unfold guarded at h2
  split at h2
  · rename_i hgu
    have : Region.wanted o (yielded ops a.tmps) = true := by simp [Region.wanted, hgu]
    rw [if_pos this]
    exact .inl (stepOp_is hC hT hV hg hfr hfn h2 hP)
  · rename_i j want hgu
    split at h2
    · rename_i oj hoj
      split at h2
      · rename_i t ht
        split at h2
        · rename_i b hb
          have hy := yielded_of (a := a) (ops := ops) (by simpa using hoj) ht (lit_is hV hb)
          split at h2
          · have : Region.wanted o (yielded ops a.tmps) = true := by simp [Region.wanted, hgu, hy]
            rw [if_pos this]
            exact .inl (stepOp_is hC hT hV hg hfr hfn h2 hP)
          · have : Region.wanted o (yielded ops a.tmps) = true := by simp [Region.wanted, hgu, hy]
            rw [if_pos this]
            exact .inl (stepOp_is hC hT hV hg hfr hfn h2 hP)
          · rename_i n1 n2
            have : ¬ Region.wanted o (yielded ops a.tmps) = true := by
              simp only [Region.wanted, hgu, hy]
              cases b <;> cases want <;> simp_all
            rw [if_neg this]
            exact hP.value hg h2 rfl
        · rename_i hb
          have he : a.eval (.tmp t) = .tuple #[] := lit_is hV hb
          have hy : yielded ops a.tmps j = none := by
            unfold yielded
            have hoj' : ops[j]? = some oj := by simpa using hoj
            simp only [hoj', Option.bind_some, ht]
            simp only [Act.eval, Array.getD_eq_getD_getElem?] at he
            cases h : a.tmps[t]? with
            | none => rfl
            | some x => rw [h] at he; simp at he; rw [he]
          have : ¬ Region.wanted o (yielded ops a.tmps) = true := by simp [Region.wanted, hgu, hy]
          rw [if_neg this]
          exact hP.value hg h2 rfl
        · cases h2
      · cases h2
    · cases h2
def Sat (C : Ctx) (st : St) (a : Act) (w : World) : Prop :=
  ∃ e, Knows C e a w (fun k => find k st.m) ∧ Good C e a w ∧ (∀ b k, e.ρ b = some k → b < st.nb) ∧ (∀ s f, e.ν s = some f → s / 8 < st.nb)
theorem find_append {k : Key} : ∀ {l m : Ws}, find k (l ++ m) = (match find k l with | some v => some v | none => find k m)
  | [], m => rfl
  | (k', v) :: l, m => by
    simp only [List.cons_append, find]
    split
    · rfl
    · exact find_append
theorem seen_cat {k : Key} {l : Array Bool} (W : List Ws) : ∀ (L : List Ws) (K : List (List Key)) (j : Nat) (m : Ws), K.length = L.length → (∀ x ws, L[x]? = some ws → W[j + x]? = some ws ∧ keysOf ws = K.getD x [] ∧ l.getD (j + x) false = true) →
    seenGo W l k K j (find k m) = find k (catW L m)
  | [], [], j, m, _, _ => rfl
  | [], _ :: _, j, m, h, _ => by simp at h
  | _ :: _, [], j, m, h, _ => by simp at h
  | ws :: L, ks :: K, j, m, hlen, h => by
    obtain ⟨h1, h2, h3⟩ := h 0 ws (by simp)
    simp only [Nat.add_zero] at h1 h3
    have h2 : keysOf ws = ks := by simpa using h2
    have hr := seen_cat (k := k) (l := l) W L K (j + 1) (ws ++ m) (by simpa using hlen) (fun x ws' hx => by
      obtain ⟨q1, q2, q3⟩ := h (x + 1) ws' (by simpa using hx)
      rw [show j + (x + 1) = j + 1 + x by omega] at q1 q3
      exact ⟨q1, by simpa using q2, q3⟩)
    rw [find_append] at hr
    unfold seenGo
    rw [← h2]
    cases hm : memK k (keysOf ws) with
    | false =>
      rw [memK_false hm] at hr
      exact hr
    | true =>
      simp only [h3, h1]
      cases hf : find k ws with
      | some v => rw [hf] at hr; exact hr
      | none =>
        exfalso
        have : ∀ (ws : Ws), k ∈ keysOf ws → find k ws ≠ none := by
          intro ws
          induction ws with
          | nil => intro h; simp [keysOf] at h
          | cons x ws ih =>
            obtain ⟨k', v'⟩ := x
            intro h
            simp only [keysOf, List.mem_cons] at h
            simp only [find]
            split
            · simp
            · rename_i hs
              rcases h with rfl | h
              · have := Key.same_iff.2 (rfl : k = k)
                rw [hs] at this
                cases this
              · exact ih h
        exact this ws (memK_true.1 hm) hf
theorem Inv.done {st : St} (hKl : Nat.beq K.length ops.toList.length = true)
    (hck : check C.toStat T ops.toList (presGo [] ops.toList) (fun k => find k st.m) st.nb K ops.toList 0 [] = some W) {l : Array Bool} {a : Act} {w : World}
    (hI : Inv C K W (fun k => find k st.m) st.nb (presGo [] ops.toList) ops.size l a w) (hall : ∀ i, i < ops.size → l.getD i false = true) : Sat C ⟨st.nb + ops.toList.length, catW W st.m⟩ a w := by
  obtain ⟨hsz, hdown, e, hk, hg, hρ, hν⟩ := hI
  obtain ⟨_, hWl, hW⟩ := check_spec (i := 0) rfl hck
  simp only [Nat.zero_add] at hWl hW
  have hlim : ∀ i, l.getD i false = true → i < ops.size := by
    intro i hi
    rcases Nat.lt_or_ge i l.size with h | h
    · omega
    · simp [Array.getD_eq_getD_getElem?, Array.getElem?_eq_none h] at hi
  have hin : ∀ (j : Nat) (ws : Ws), W[j]? = some ws → j < ops.size ∧ keysOf ws = K.getD j [] := by
    intro j ws hj
    have hlt : j < W.length := by
      rcases Nat.lt_or_ge j W.length with h | h
      · exact h
      · simp [List.getElem?_eq_none h] at hj
    have hlt' : j < ops.toList.length := by omega
    obtain ⟨ws', h4, _, h6⟩ := hW j _ (List.getElem?_eq_getElem hlt')
    rw [hj] at h4
    injection h4 with h4; subst h4
    exact ⟨by simpa using hlt', h6⟩
  refine ⟨e, ?_, hg, ?_, ?_⟩
  · intro k v hkv
    apply hk k v
    have hkv : find k (catW W st.m) = some v := hkv
    rw [← seen_cat (l := l) W W K 0 st.m (by rw [hWl]; exact Nat.eq_of_beq_eq_true hKl) (fun x ws hx => by
      obtain ⟨q1, q2⟩ := hin x ws hx
      simp only [Nat.zero_add]
      exact ⟨hx, q2, hall x q1⟩)] at hkv
    exact hkv
  · intro b k hb
    rcases hρ b k hb with h | ⟨i, h4, h5⟩
    · exact Nat.lt_of_lt_of_le h (Nat.le_add_right _ _)
    · have := hlim i h5
      show b < st.nb + ops.toList.length
      simp
      omega
  · intro s f hs
    rcases hν s f hs with h | ⟨i, h4, h5⟩
    · exact Nat.lt_of_lt_of_le h (Nat.le_add_right _ _)
    · have := hlim i h5
      show s / 8 < st.nb + ops.toList.length
      simp
      omega
end
end Sym
open Go Go.RowKit Go.Proofs Lim
section
variable {P : Program} {ops : Array Oper} {Q : Exit → Act → World → Prop} {md : Region.Mode}
def left (l : Array Bool) : Nat := (l.toList.filter (fun b => !b)).length
theorem left_set {l : Array Bool} {i : Nat} (h : l[i]? = some false) : left (l.setIfInBounds i true) + 1 = left l := by
  obtain ⟨xs⟩ := l
  unfold left
  simp only [List.getElem?_toArray] at h
  simp only [List.setIfInBounds_toArray]
  induction xs generalizing i with
  | nil => simp at h
  | cons x xs ih =>
    cases i with
    | zero => simp at h; subst h; simp
    | succ i =>
      simp at h
      have := ih h
      cases x <;> simp [List.set_cons_succ] <;> omega
theorem wpAny_inv (Inv : Array Bool → Act → World → Prop)
    (step : ∀ l a w i, l.size = ops.size → Inv l a w → i ∈ Region.ready md ops l → wpOp P ops Q i (fun a' w' => Inv (l.setIfInBounds i true) a' w') a w)
    (done : ∀ l a w, l.size = ops.size → Inv l a w → Region.ready md ops l = [] → Q .normal a w) :
    ∀ (fuel : Nat) (l : Array Bool) (a : Act) (w : World), l.size = ops.size → left l ≤ fuel → Inv l a w → wpAny P md ops Q fuel l a w := by
  intro fuel
  induction fuel with
  | zero =>
    intro l a w hs hl hi
    have hr : Region.ready md ops l = [] := by
      cases hx : Region.ready md ops l with
      | nil => rfl
      | cons i is =>
        have hm : i ∈ Region.ready md ops l := by rw [hx]; simp
        have h1 := (mem_ready.1 hm).1
        have hlt : i < l.size := by
          rcases Nat.lt_or_ge i l.size with h | h
          · exact h
          · simp [Array.getElem?_eq_none h] at h1
        have h2 : l[i]? = some false := by
          rw [Array.getElem?_eq_getElem hlt]
          simp [hlt] at h1
          rw [h1]
        have := left_set h2
        omega
    exact ⟨hr, done l a w hs hi hr⟩
  | succ fuel ih =>
    intro l a w hs hl hi
    refine ⟨fun hr => done l a w hs hi hr, fun i hm => ?_⟩
    have h1 := (mem_ready.1 hm).1
    have hlt : i < l.size := by
      rcases Nat.lt_or_ge i l.size with h | h
      · exact h
      · simp [Array.getElem?_eq_none h] at h1
    have h2 : l[i]? = some false := by
      rw [Array.getElem?_eq_getElem hlt]
      simp [hlt] at h1
      rw [h1]
    have h3 := left_set h2
    exact wpOp_mono (fun a' w' h => ih _ a' w' (by simpa using hs) (by omega) h) (step l a w i hs hi hm)
theorem all_of_done {l : Array Bool} (hs : l.size = ops.size) (ht : ∀ (i : Nat) (o : Oper), ops[i]? = some o → ∀ e ∈ o.after, Region.binds md e = true → e.on < i) (hr : Region.ready md ops l = []) :
    ∀ i, i < ops.size → l[i]? = some true := by
  intro i
  induction i using Nat.strongRecOn with
  | ind i ih =>
    intro hi
    have hl : i < l.size := by omega
    rw [Array.getElem?_eq_getElem hl]
    cases hb : l[i] with
    | true => rfl
    | false =>
      exfalso
      have hm : i ∈ Region.ready md ops l := by
        refine mem_ready.2 ⟨by simp [hl, hb], ops[i], Array.getElem?_eq_getElem hi, fun e he hbi => ?_⟩
        have h1 := ht i ops[i] (Array.getElem?_eq_getElem hi) e he hbi
        have h2 := ih e.on h1 (by omega)
        simp [h2]
      rw [hr] at hm
      cases hm
end
end Go.Proofs.YtccabfblgjcboaaGreatDoor

namespace Go.Proofs.YtccabfblgjcboaaGreatDoor
open Go Go.RowKit Go.Proofs
namespace Sym
section
variable {C : Ctx} {T : List Ent} {ops : Array Oper} {Q : Exit → Act → World → Prop}
theorem Knows.drew (hC : C.Ok) {e : Env} {a : Act} {w : World} {V : View} (hg : Good C e a w) (hV : Knows C e a w V) : Knows C e a { w with drawn := w.drawn + 1 } V :=
  Knows.below hC hg ⟨rfl, rfl, rfl, Nat.le_refl _, fun _ _ => rfl⟩ hV
theorem Good.drew {e : Env} {a : Act} {w : World} (hg : Good C e a w) : Good C e a { w with drawn := w.drawn + 1 } :=
  hg.later ⟨rfl, rfl, rfl, Nat.le_refl _, fun _ _ => rfl⟩
theorem Inv.first {K : List (List Key)} {W : List Ws} {st : St} {pres : List Nat} {n : Nat} {a : Act} {w : World} (h : Sat C st a w) : Inv C K W (fun k => find k st.m) st.nb pres n (Array.replicate n false) a w := by
  obtain ⟨e, hk, hg, h1, h2⟩ := h
  have hf : ∀ j, (Array.replicate n false).getD j false = false := by
    intro j
    simp only [Array.getD_eq_getD_getElem?, Array.getElem?_replicate]
    split <;> rfl
  refine ⟨by simp, fun i hi => absurd hi (by rw [hf]; simp), e, ?_, hg, fun b k hb => .inl (h1 b k hb), fun s f hs => .inl (h2 s f hs)⟩
  intro k v hkv
  apply hk k v
  have hkv : seenGo W (Array.replicate n false) k K 0 (find k st.m) = some v := hkv
  rw [seen_none (fun x ks _ _ => hf _)] at hkv
  exact hkv
theorem wpOps_inv {I : Array Bool → Act → World → Prop} (step : ∀ l a w i, I l a w → l[i]? = some false → (∀ j, j < i → l.getD j false = true) → wpOp C.P ops Q i (fun a' w' => I (l.setIfInBounds i true) a' w') a w)
    (done : ∀ l a w, I l a w → (∀ j, j < ops.size → l.getD j false = true) → Q .normal a w) (hsz : ∀ l a w, I l a w → l.size = ops.size) :
    ∀ (n i : Nat) (l : Array Bool) (a : Act) (w : World), i + n = ops.size → I l a w → (∀ j, j < i → l.getD j false = true) → (∀ j, i ≤ j → j < ops.size → l[j]? = some false) → wpOps C.P ops Q (List.range' i n) a w
  | 0, i, l, a, w, hin, hI, h1, h2 => done l a w hI (fun j hj => h1 j (by omega))
  | n + 1, i, l, a, w, hin, hI, h1, h2 => by
    rw [List.range'_succ, wpOps_cons]
    have hil : i < l.size := by rw [hsz l a w hI]; omega
    refine wpOp_mono (fun a' w' h => ?_) (step l a w i hI (h2 i (Nat.le_refl _) (by omega)) h1)
    refine wpOps_inv step done hsz n (i + 1) _ a' w' (by omega) h ?_ ?_
    · intro j hj
      rw [getD_set hil]
      split
      · rfl
      · exact h1 j (by omega)
    · intro j hj hjs
      rw [Array.getElem?_setIfInBounds, if_neg (by omega)]
      exact h2 j (by omega) hjs
theorem region_is (hC : C.Ok) (hT : ∀ t ∈ T, t.Valid C) {id : Nat} {draw : Bool} {st st' : St} (h : region C.toStat T ops.toList st = some st') {a : Act} {w : World} (hs : Sat C st a w) (hQ : ∀ a' w', Sat C st' a' w' → Q .normal a' w') :
    (Code.region id ops draw).wp C.P Q a w := by
  unfold region at h
  split at h
  · cases h
  · rename_i hord
    split at h
    · cases h
    · rename_i K hK
      split at h
      · cases h
      · rename_i hKl
        split at h
        · cases h
        · rename_i hu
          split at h
          · rename_i W hW
            injection h with h
            subst h
            cases draw with
            | true =>
              refine wp_region_any hC.mixed ?_
              have hs' : Sat C st a { w with drawn := w.drawn + 1 } := by
                obtain ⟨e, hk, hg, h1, h2⟩ := hs
                exact ⟨e, hk.drew hC hg, hg.drew, h1, h2⟩
              refine wpAny_inv (Inv C K W (fun k => find k st.m) st.nb (presGo [] ops.toList) ops.size) ?_ ?_ ops.size _ a _ (by simp) (by unfold left; simp) (Inv.first hs')
              · intro l a w i hsz hI hi
                obtain ⟨hi1, o, ho, hr⟩ := mem_ready.1 hi
                have hlt : i < l.size := by
                  rcases Nat.lt_or_ge i l.size with h | h
                  · exact h
                  · simp [Array.getElem?_eq_none h] at hi1
                refine Inv.step hC hT hKl hu hW hI ?_ ?_
                · rw [Array.getElem?_eq_getElem hlt]
                  simp [hlt] at hi1
                  rw [hi1]
                · intro o' ho'
                  rw [ho] at ho'
                  injection ho' with ho'; subst ho'
                  exact hr
              · intro l a w hsz hI hr
                refine hQ a w (Inv.done hKl hW hI ?_)
                have := all_of_done (ops := ops) (md := .any) hsz (fun i o ho ed hed hb => by
                  have := inOrder_spec hord i o (by simpa using ho) ed hed hb
                  simpa using this) hr
                intro i hi
                simp [Array.getD_eq_getD_getElem?, this i hi]
            | false =>
              refine wp_region ?_
              rw [List.range_eq_range']
              refine wpOps_inv (I := Inv C K W (fun k => find k st.m) st.nb (presGo [] ops.toList) ops.size) ?_ ?_ ?_ ops.size 0 (Array.replicate ops.size false) a w (by omega) (Inv.first hs) (fun j hj => by omega) ?_
              · intro l a w i hI hi hlt
                refine Inv.step hC hT hKl hu hW hI hi ?_
                intro o ho ed hed hb
                have := inOrder_spec hord i o (by simpa using ho) ed hed hb
                exact hlt ed.on (by simpa using this)
              · intro l a w hI hall
                exact hQ a w (Inv.done hKl hW hI hall)
              · intro l a w hI; exact hI.size
              · intro j _ hj
                simp [Array.getElem?_replicate, hj]
          · cases h
inductive Xt where
  | normal
  | exit (id : Nat)
  | ret
def Xt.to : Xt → Exit
  | .normal => .normal
  | .exit id => .exit id
  | .ret => .ret
def rounds (f : St → Option (Xt × St)) : Nat → St → Option (Xt × St)
  | 0, _ => none
  | n + 1, st => match f st with
    | some (.normal, st') => rounds f n st'
    | r => r
def exec (S : Stat) (T : List Ent) : Nat → Code → St → Option (Xt × St)
  | 0, _, _ => none
  | n + 1, c, st => match c with
    | .skip => some (.normal, st)
    | .label _ => some (.normal, st)
    | .exit id => some (.exit id, st)
    | .ret => some (.ret, st)
    | .region _ ops _ => match region S T ops.toList st with
      | some st' => some (.normal, st')
      | none => none
    | .seq x y => match exec S T n x st with
      | some (.normal, st') => exec S T n y st'
      | r => r
    | .cond x c d => match lit? (opnd (fun k => find k st.m) x) with
      | some (.bool true) => exec S T n c st
      | some (.bool false) => exec S T n d st
      | _ => none
    | .block id c => match exec S T n c st with
      | some (.exit j, st') => match Nat.beq j id with
        | true => some (.normal, st')
        | false => some (.exit j, st')
      | r => r
    | .scope c => exec S T n c st
    | .loop c => rounds (fun st => exec S T n c st) n st
    | _ => none
def Leaves (C : Ctx) (x : Xt) (st : St) : Exit → Act → World → Prop := fun e a w => e = x.to ∧ Sat C st a w
theorem wp_rounds {c : Code} {f : St → Option (Xt × St)} (hf : ∀ st x st', f st = some (x, st') → ∀ a w, Sat C st a w → c.wp C.P (Leaves C x st') a w) :
    ∀ (n : Nat) (st : St) (x : Xt) (st' : St), rounds f n st = some (x, st') → ∀ a w, Sat C st a w → x ≠ .normal ∧ ∀ (b : Frame) (k : List Item) (cs : List Frame),
      ∃ e a' w', Leaves C x st' e a' w' ∧ Arrives C.P (lone (b.at a (.code c :: .inLoop c :: k)) cs w) b k cs e a' w'
  | 0, st, x, st', h, a, w, hs => by simp [rounds] at h
  | n + 1, st, x, st', h, a, w, hs => by
    unfold rounds at h
    split at h
    · rename_i st1 h1
      have hb := hf _ _ _ h1 a w hs
      constructor
      · obtain ⟨e, a₁, w₁, ⟨rfl, hq⟩, harr⟩ := hb default [] []
        exact (wp_rounds hf n st1 x st' h a₁ w₁ hq).1
      · intro b k cs
        obtain ⟨e, a₁, w₁, ⟨rfl, hq⟩, harr⟩ := hb b (.inLoop c :: k) cs
        obtain ⟨e₂, a₂, w₂, hq₂, harr₂⟩ := (wp_rounds hf n st1 x st' h a₁ w₁ hq).2 b k cs
        exact ⟨e₂, a₂, w₂, hq₂, .of_steps (Steps.trans harr (.one step_inLoop)) harr₂⟩
    · rename_i hne
      have hb := hf _ _ _ h a w hs
      constructor
      · intro hx
        subst hx
        exact hne st' h
      · intro b k cs
        obtain ⟨e, a₁, w₁, ⟨rfl, hq⟩, harr⟩ := hb b (.inLoop c :: k) cs
        cases x with
        | normal => exact absurd h (hne st')
        | exit id => exact ⟨_, a₁, w₁, ⟨rfl, hq⟩, .pass (x := .inLoop c) rfl (fun _ _ => .inl (by simp [Xt.to])) harr⟩
        | ret => exact ⟨_, a₁, w₁, ⟨rfl, hq⟩, .pass (x := .inLoop c) rfl (fun _ _ => .inl (by simp [Xt.to])) harr⟩
theorem exec_is (hC : C.Ok) (hT : ∀ t ∈ T, t.Valid C) : ∀ (n : Nat) (c : Code) (st : St) (x : Xt) (st' : St), exec C.toStat T n c st = some (x, st') → ∀ a w, Sat C st a w → c.wp C.P (Leaves C x st') a w
  | 0, c, st, x, st', h, a, w, hs => by simp [exec] at h
  | n + 1, c, st, x, st', h, a, w, hs => by
    unfold exec at h
    split at h
    · injection h with h; injection h with h1 h2; subst h1; subst h2
      exact wp_skip ⟨rfl, hs⟩
    · injection h with h; injection h with h1 h2; subst h1; subst h2
      exact wp_label ⟨rfl, hs⟩
    · injection h with h; injection h with h1 h2; subst h1; subst h2
      exact wp_exit ⟨rfl, hs⟩
    · injection h with h; injection h with h1 h2; subst h1; subst h2
      exact wp_ret ⟨rfl, hs⟩
    · split at h
      · rename_i st1 h1
        injection h with h; injection h with h3 h2; subst h3; subst h2
        exact region_is hC hT h1 hs (fun a' w' h => ⟨rfl, h⟩)
      · cases h
    · rename_i x1 y1
      apply wp_seq
      split at h
      · rename_i st1 h1
        refine wp_mono (exec_is hC hT n _ _ _ _ h1 a w hs) ?_
        rintro e a' w' ⟨rfl, hs'⟩
        exact exec_is hC hT n _ _ _ _ h a' w' hs'
      · rename_i hne
        refine wp_mono (exec_is hC hT n _ _ _ _ h a w hs) ?_
        rintro e a' w' ⟨rfl, hs'⟩
        cases x with
        | normal => exact absurd h (hne st')
        | exit id => exact ⟨rfl, hs'⟩
        | ret => exact ⟨rfl, hs'⟩
    · rename_i x1 c1 d1
      obtain ⟨e, hk, hg, h1, h2⟩ := hs
      split at h
      · rename_i hl
        exact wp_cond_true (lit_is hk hl) (exec_is hC hT n _ _ _ _ h a w ⟨e, hk, hg, h1, h2⟩)
      · rename_i hl
        exact wp_cond_false (lit_is hk hl) (exec_is hC hT n _ _ _ _ h a w ⟨e, hk, hg, h1, h2⟩)
      · cases h
    · rename_i id1 c1
      apply wp_block
      split at h
      · rename_i j st1 h1
        split at h
        · rename_i hj
          injection h with h; injection h with h3 h2; subst h3; subst h2
          refine wp_mono (exec_is hC hT n _ _ _ _ h1 a w hs) ?_
          rintro e a' w' ⟨rfl, hs'⟩
          simp only [Xt.to, Exit.inBlock, Nat.eq_of_beq_eq_true hj, if_true]
          exact ⟨rfl, hs'⟩
        · rename_i hj
          injection h with h; injection h with h3 h2; subst h3; subst h2
          refine wp_mono (exec_is hC hT n _ _ _ _ h1 a w hs) ?_
          rintro e a' w' ⟨rfl, hs'⟩
          have : ¬ j = id1 := by
            rintro rfl
            simp at hj
          simp only [Xt.to, Exit.inBlock, if_neg this]
          exact ⟨rfl, hs'⟩
      · rename_i hne
        refine wp_mono (exec_is hC hT n _ _ _ _ h a w hs) ?_
        rintro e a' w' ⟨rfl, hs'⟩
        cases x with
        | normal => exact ⟨rfl, hs'⟩
        | exit id => exact absurd h (hne id st')
        | ret => exact ⟨rfl, hs'⟩
    · apply wp_scope_straight
      refine wp_mono (exec_is hC hT n _ _ _ _ h a w hs) ?_
      rintro e a' w' ⟨rfl, hs'⟩
      cases x <;> exact ⟨rfl, hs'⟩
    · intro b k cs
      obtain ⟨e, a', w', h1, h2⟩ := (wp_rounds (fun st x st' h => exec_is hC hT n _ st x st' h) n st x st' h a w hs).2 b k cs
      exact ⟨e, a', w', h1, .of_steps (.one step_loop) h2⟩
    · cases h
def resA (P : Program) (V : View) : List ResultVar → Option (List A1)
  | [] => some []
  | r :: l => match resA P V l with
    | none => none
    | some xs => match r with
      | .tmp t => match opnd V (.tmp t) with
        | some (.val x) => some (x :: xs)
        | _ => none
      | .cell a t => match ptr? (opnd V (.tmp a)) with
        | some (b, o) => match loadA P V t b o with
          | some x => some (x :: xs)
          | none => none
        | none => none
def resF (tmps : Array Value) : ResultVar → Sem Value
  | .tmp t => pure (tmps.getD t undef)
  | .cell p t => do loadVar t (← asAddr (tmps.getD p undef))
theorem results_eq (fn : Func) (tmps : Array Value) : results fn tmps = (do let vs ← fn.results.mapM (resF tmps); pure (if h : vs.size = 1 then vs[0] else .tuple vs)) := by
  unfold results
  congr
theorem resA_is {e : Env} {a : Act} {w : World} {V : View} (hV : Knows C e a w V) : ∀ {l : List ResultVar} {xs : List A1}, resA C.P V l = some xs →
    ∃ vs, (l.mapM (resF a.tmps)).run C.P w = .ok vs w ∧ AsAre e xs vs
  | [], xs, h => by
    simp [resA] at h; subst h
    exact ⟨[], by simp, rfl⟩
  | r :: l, xs, h => by
    simp only [resA] at h
    split at h
    · cases h
    · rename_i ys hys
      obtain ⟨vs, h1, h2⟩ := resA_is hV hys
      split at h
      · rename_i t
        split at h
        · rename_i x hx
          injection h with h; subst h
          refine ⟨a.eval (.tmp t) :: vs, ?_, _, _, rfl, opnd_is hV hx, h2⟩
          rw [List.mapM_cons]
          simp only [resF, Sem.run_bind, Sem.run_pure, Result.andThen_ok, h1]
          rfl
        · cases h
      · rename_i p t
        split at h
        · rename_i b o hb
          obtain ⟨k, hk, hx⟩ := ptr_is hV hb
          split at h
          · rename_i y hy
            injection h with h; subst h
            obtain ⟨v, h3, h4⟩ := loadA_run hV hk hy
            refine ⟨v :: vs, ?_, _, _, rfl, h4, h2⟩
            have hx' : a.tmps.getD p undef = .pointer (some ⟨k, o, none⟩) := hx
            rw [List.mapM_cons]
            simp only [resF, Sem.run_bind, hx', asAddr, Sem.run_pure, Result.andThen_ok, h1, h3]
          · cases h
        · cases h
def Xt.ends : Xt → Bool
  | .normal => true
  | .ret => true
  | _ => false
def valsOf : List A1 → List AV
  | [] => []
  | x :: l => .val x :: valsOf l
def matchR (V : View) : RPat → List A1 → Bool
  | .val p, [x] => matchP V p (.val x)
  | .tup ps, [] => matchPs V ps []
  | .tup ps, x :: y :: l => matchPs V ps (valsOf (x :: y :: l))
  | _, _ => false
def slotsW : Nat → List A1 → Ws
  | _, [] => []
  | t, x :: l => (.slot t, .av (.val x)) :: slotsW (t + 1) l
def start (args : List Pat) : Option St :=
  match mkPs 0 args with
  | some (xs, lv, s') => some ⟨s' / 8 + 1, slotsW 0 xs ++ lv⟩
  | none => none
def runB (S : Stat) (T : List Ent) (n : Nat) (c : Code) (rs : List ResultVar) (args : List Pat) (res : RPat) : Bool :=
  match start args with
  | some st => match exec S T n c st with
    | some (xt, st') => match xt.ends with
      | true => match resA S.P (fun k => find k st'.m) rs with
        | some x => matchR (fun k => find k st'.m) res x
        | none => false
      | false => false
    | none => false
  | none => false
theorem vals_are {e : Env} : ∀ {l : List A1} {vs : List Value}, AsAre e l vs → VsAre e (valsOf l) vs
  | [], _, h => h
  | x :: l, _, ⟨v, ws, h1, h2, h3⟩ => ⟨v, ws, h1, h2, vals_are h3⟩
theorem slotsW_mem {k : Key} {v : Kv} : ∀ {l : List A1} {t : Nat}, (k, v) ∈ slotsW t l → ∃ j x, l[j]? = some x ∧ k = .slot (t + j) ∧ v = .av (.val x)
  | [], t, h => by simp [slotsW] at h
  | x :: l, t, h => by
    simp only [slotsW, List.mem_cons, Prod.mk.injEq] at h
    rcases h with ⟨rfl, rfl⟩ | h
    · exact ⟨0, x, rfl, rfl, rfl⟩
    · obtain ⟨j, y, h1, h2, h3⟩ := slotsW_mem h
      exact ⟨j + 1, y, by simpa using h1, by rw [h2]; congr 1; omega, h3⟩
theorem PatsAre.length : ∀ {ps : List Pat} {vs : List Value} {w : World}, PatsAre C w ps vs → vs.length = ps.length
  | [], _, w, h => by rw [h]; rfl
  | p :: ps, _, w, ⟨v, ws, h1, h2, h3⟩ => by rw [h1]; simp [h3.length]
theorem calls_run (hC : C.Ok) (hT : ∀ t ∈ T, t.Valid C) {f : FuncId} {fn : Func} {c : Code} {rs : List ResultVar} (hf : C.P.funcs[f]? = some fn) (hb : fn.body = some c) (hrs : fn.results.toList = rs) (hnt : fn.ntmps = C.nt) {args : List Pat} {res : RPat} {n : Nat}
    (hlen : args.length ≤ C.nt) (hrun : runB C.toStat T n c rs args res = true) (vs : List Value) (hvs : PatsAre C C.w0 args vs) :
    Calls C.P f vs.toArray C.w0 (fun e w' => ∃ v, e = .returned v ∧ res.is C w' v ∧ Below C.w0.heap.size C.w0 w') := by
  unfold runB at hrun
  split at hrun
  · rename_i st hst
    split at hrun
    · rename_i xt st' he
      split at hrun
      · rename_i hx
        split at hrun
        · rename_i xs hr
          have hs : Sat C st { tmps := vs.toArray ++ Array.replicate (fn.ntmps - vs.toArray.size) undef, defers := [] } C.w0 := by
            unfold start at hst
            split at hst
            · rename_i ys lv s' hm
              injection hst with hst; subst hst
              obtain ⟨e, g, hxs⟩ := mkPs_is (e := ⟨fun _ => none, fun _ => none⟩) hm (Nat.le_refl _) (fun _ _ _ => rfl) hvs
              have hρ : ∀ b k, e.ρ b = some k → False := fun b k h => by rw [g.ρ] at h; cases h
              refine ⟨e, ?_, ⟨Below.refl _ _, rfl, ?_, fun b b' k h => (hρ b k h).elim, fun b k h => (hρ b k h).elim⟩, fun b k h => (hρ b k h).elim, ?_⟩
              · intro k v hkv
                rcases List.mem_append.1 (find_mem hkv) with h | h
                · obtain ⟨j, x, h1, rfl, rfl⟩ := slotsW_mem h
                  obtain ⟨v, h2, h3⟩ := hxs.get j x h1
                  refine ⟨v, ?_, h3⟩
                  have hjl : j < vs.length := by
                    rcases Nat.lt_or_ge j vs.length with h | h
                    · exact h
                    · simp [List.getElem?_eq_none h] at h2
                  show (vs.toArray ++ Array.replicate (fn.ntmps - vs.toArray.size) undef)[0 + j]? = some v
                  rw [Nat.zero_add, Array.getElem?_append_left (by simpa using hjl)]
                  simpa using h2
                · obtain ⟨x, cl, rfl, rfl, f, h4, h5⟩ := g.live k v h
                  exact ⟨f, h4, h5⟩
              · have := hvs.length
                simp only [Array.size_append, List.size_toArray, Array.size_replicate]
                omega
              · intro s f hsf
                rcases g.ν s f hsf with h | h
                · cases h
                · show s / 8 < s' / 8 + 1
                  omega
            · cases hst
          refine calls_of_wp hf hb (wp_mono (exec_is hC hT n c st xt st' he _ _ hs) ?_)
          rintro e a' w' ⟨rfl, env, hk, hg, h1, h2⟩
          have : bodyPost C.P fn (fun e w' => ∃ v, e = .returned v ∧ res.is C w' v ∧ Below C.w0.heap.size C.w0 w') .ret a' w' := by
            obtain ⟨us, h3, h4⟩ := resA_is hk hr
            have h5 : (results fn a'.tmps).run C.P w' = .ok (if h : us.toArray.size = 1 then us.toArray[0] else .tuple us.toArray) w' := by
              rw [results_eq, Array.mapM_eq_mapM_toList, hrs]
              simp only [Sem.run_bind, Sem.run_map, h3, Result.andThen_ok]
              rfl
            refine ⟨hg.defers, _, h5, _, rfl, ?_, hg.below⟩
            unfold matchR at hrun
            split at hrun
            · rename_i p x
              obtain ⟨v, ws, rfl, h6, h7⟩ := h4
              rw [show ws = [] from h7]
              exact matchP_is hk hrun h6
            · rw [show us = [] from h4]
              exact ⟨[], matchPs_is hk hrun rfl, rfl⟩
            · rename_i ps x y l
              have hl : us.toArray.size ≠ 1 := by
                obtain ⟨v, ws, rfl, _, v', ws', rfl, _⟩ := h4
                simp
              rw [dif_neg hl]
              exact ⟨us, matchPs_is hk hrun (vals_are h4), rfl⟩
            · cases hrun
          cases xt with
          | normal => exact this
          | ret => exact this
          | exit id => cases hx
        · cases hrun
      · cases hrun
    · cases hrun
  · cases hrun
end
end Sym
end Go.Proofs.YtccabfblgjcboaaGreatDoor

namespace Go.Proofs.YtccabfblgjcboaaGreatDoor
open Go Go.RowKit Go.Proofs
namespace Sym
inductive Item where
  | val (t : Nat) (p : Pat)
  | box (t ty : Nat) (gs : List Grp)
  /-- It holds a slice that is the whole of a box of the call's own. (At the end of a piece only.) -/
  | own (t ty n : Nat) (gs : List Grp)
section
variable {C : Ctx} {T : List Ent} {Q : Exit → Act → World → Prop} {a : Act} {w : World}
def ItemsAre (C : Ctx) (a : Act) (w : World) : List Item → List Nat → Prop
  | [], _ => True
  | .val t p :: l, bs => (∃ v, a.tmps[t]? = some v ∧ p.is C w v) ∧ ItemsAre C a w l bs
  | .box t ty gs :: l, bs => ∃ k vs, a.tmps[t]? = some (.pointer (some ⟨k, 0, none⟩)) ∧ C.w0.heap.size ≤ k ∧ k ∉ bs ∧ w.heap[k]? = some (.cells vs.toArray ty (0, 0)) ∧ GrpsAre C w gs vs ∧ ItemsAre C a w l (k :: bs)
  | .own t ty n gs :: l, bs => (∃ k vs, a.tmps[t]? = some (.slice (some ⟨k, 0, none⟩) n n) ∧ C.w0.heap.size ≤ k ∧ w.heap[k]? = some (.cells vs.toArray ty (0, 0)) ∧ GrpsAre C w gs vs) ∧ ItemsAre C a w l bs
structure At (C : Ctx) (l : List Item) (a : Act) (w : World) : Prop where
  below : Below C.w0.heap.size C.w0 w
  defers : a.defers = []
  size : a.tmps.size = C.nt
  items : ItemsAre C a w l []
def entry : List Item → Nat → Option Ws
  | [], _ => some []
  | .val t p :: l, j => match mkP (j * 8) p with
    | some (x, lv, s') => match Nat.ble s' (j * 8 + 8) with
      | true => match entry l (j + 1) with
        | some ws => some ((.slot t, .av (.val x)) :: lv ++ ws)
        | none => none
      | false => none
    | none => none
  | .box t ty gs :: l, j => match mkGs (j * 8) gs with
    | (cs, lv, s') => match Nat.ble s' (j * 8 + 8) with
      | true => match entry l (j + 1) with
        | some ws => some ((.slot t, .av (.val (.one (.ptr j 0)))) :: (.box j, .box ty cs.length) :: cellsW j 0 cs ++ lv ++ ws)
        | none => none
      | false => none
  | .own _ _ _ _ :: _, _ => none
def meets (V : View) : List Item → List Nat → Bool
  | [], _ => true
  | .val t p :: l, bs => match opnd V (.tmp t) with
    | some x => match matchP V p x with
      | true => meets V l bs
      | false => false
    | none => false
  | .box t ty gs :: l, bs => match ptr? (opnd V (.tmp t)) with
    | some (b, 0) => match elemN b bs with
      | true => false
      | false => match V (.box b) with
        | some (.box ty' n) => match Nat.beq ty' ty with
          | true => match cellsFrom V b 0 n with
            | some cs => match matchGs V gs cs with
              | true => meets V l (b :: bs)
              | false => false
            | none => false
          | false => false
        | _ => false
    | _ => false
  | .own t ty n gs :: l, bs => match opnd V (.tmp t) with
    | some (.val (.one (.slc b 0 n1 n2))) => match Nat.beq n1 n, Nat.beq n2 n with
      | true, true => match V (.box b) with
        | some (.box ty' m) => match Nat.beq ty' ty with
          | true => match cellsFrom V b 0 m with
            | some cs => match matchGs V gs cs with
              | true => meets V l bs
              | false => false
            | none => false
          | false => false
        | _ => false
      | _, _ => false
    | _ => false
theorem opnd_tmp {e : Env} {V : View} (hV : Knows C e a w V) {t : Nat} {x : AV} (h : opnd V (.tmp t) = some x) : ∃ v, a.tmps[t]? = some v ∧ x.is e v := by
  unfold opnd at h
  simp only at h
  split at h
  · rename_i y hy
    injection h with h; subst h
    exact hV _ _ hy
  · cases h
theorem elemN_false {n : Nat} : ∀ {l : List Nat}, elemN n l = false → n ∉ l
  | [], _ => by simp
  | m :: l, h => by
    unfold elemN at h
    split at h
    · cases h
    · rename_i hm
      have := elemN_false h
      simp only [List.mem_cons, not_or]
      refine ⟨fun e => ?_, this⟩
      subst e
      simp at hm
theorem meets_is {e : Env} {V : View} (hV : Knows C e a w V) (hg : Good C e a w) : ∀ {l : List Item} {bs ks : List Nat}, meets V l bs = true → (∀ k ∈ ks, ∃ b ∈ bs, e.ρ b = some k) → ItemsAre C a w l ks
  | [], _, _, _, _ => trivial
  | .val t p :: l, bs, ks, h, hk => by
    unfold meets at h
    split at h
    · rename_i x hx
      split at h
      · rename_i hm
        obtain ⟨v, h1, h2⟩ := opnd_tmp hV hx
        exact ⟨⟨v, h1, matchP_is hV hm h2⟩, meets_is hV hg h hk⟩
      · cases h
    · cases h
  | .box t ty gs :: l, bs, ks, h, hk => by
    unfold meets at h
    split at h
    · rename_i b hb
      split at h
      · cases h
      · rename_i hnb
        split at h
        · rename_i ty' n hbox
          split at h
          · rename_i hty
            split at h
            · rename_i cs hcs
              split at h
              · rename_i hm
                have hb' : opnd V (.tmp t) = some (.val (.one (.ptr b 0))) := by
                  unfold ptr? at hb
                  split at hb
                  · rename_i hx
                    injection hb with hb; simp only [Prod.mk.injEq] at hb
                    rw [hx, hb.1, hb.2]
                  · cases hb
                obtain ⟨v, h1, k, hρ, rfl⟩ := opnd_tmp hV hb'
                obtain ⟨k', arr, q1, q2, q3⟩ := hV _ _ hbox
                rw [hρ] at q1
                injection q1 with q1; subst q1
                obtain ⟨h4, vs, h5, h6⟩ := cellsFrom_are hV hρ _ _ _ hcs
                have hvs : arr = vs.toArray := by
                  apply Array.ext
                  · simp [q3, h5.length, h4]
                  · intro i h7 h8
                    have h9 : i < vs.length := by simpa using h8
                    have := h6 i vs[i] (List.getElem?_eq_getElem h9)
                    simp only [Nat.zero_add, World.cell?, q2] at this
                    simp [h7] at this
                    simpa using this
                refine ⟨k, vs, h1, (hg.own b k hρ).1, ?_, by rw [q2, hvs, Nat.eq_of_beq_eq_true hty], matchGs_is hV hm h5, meets_is hV hg h ?_⟩
                · intro hmem
                  obtain ⟨b', hb', hρ'⟩ := hk k hmem
                  have := hg.inj b b' k hρ hρ'
                  subst this
                  exact elemN_false hnb hb'
                · intro k' hk'
                  rcases List.mem_cons.1 hk' with rfl | hk'
                  · exact ⟨b, by simp, hρ⟩
                  · obtain ⟨b', hb', hρ'⟩ := hk k' hk'
                    exact ⟨b', List.mem_cons_of_mem _ hb', hρ'⟩
              · cases h
            · cases h
          · cases h
        · cases h
    · cases h
  | .own t ty n gs :: l, bs, ks, h, hk => by
    unfold meets at h
    split at h
    · rename_i b n1 n2 hx
      split at h
      · rename_i e1 e2
        split at h
        · rename_i ty' m hbox
          split at h
          · rename_i hty
            split at h
            · rename_i cs hcs
              split at h
              · rename_i hm
                obtain ⟨v, h1, k, hρ, rfl⟩ := opnd_tmp hV hx
                obtain ⟨k', arr, q1, q2, q3⟩ := hV _ _ hbox
                rw [hρ] at q1
                injection q1 with q1; subst q1
                obtain ⟨h4, vs, h5, h6⟩ := cellsFrom_are hV hρ _ _ _ hcs
                have hvs : arr = vs.toArray := by
                  apply Array.ext
                  · simp [q3, h5.length, h4]
                  · intro i h7 h8
                    have h9 : i < vs.length := by simpa using h8
                    have := h6 i vs[i] (List.getElem?_eq_getElem h9)
                    simp only [Nat.zero_add, World.cell?, q2] at this
                    simp [h7] at this
                    simpa using this
                rw [Nat.eq_of_beq_eq_true e1, Nat.eq_of_beq_eq_true e2] at h1
                exact ⟨⟨k, vs, h1, (hg.own b k hρ).1, by rw [q2, hvs, Nat.eq_of_beq_eq_true hty], matchGs_is hV hm h5⟩, meets_is hV hg h hk⟩
              · cases h
            · cases h
          · cases h
        · cases h
      · cases h
    · cases h
theorem entry_is : ∀ {l : List Item} {j : Nat} {ws : Ws} {e : Env} {ks : List Nat}, entry l j = some ws → ItemsAre C a w l ks → (∀ b k, e.ρ b = some k → b < j ∧ k ∈ ks) → (∀ s f, e.ν s = some f → s / 8 < j) →
    (∀ b b' k, e.ρ b = some k → e.ρ b' = some k → b = b') → (∀ b k, e.ρ b = some k → C.w0.heap.size ≤ k ∧ k < w.heap.size) →
    ∃ e', Ext e e' ∧ (∀ k v, (k, v) ∈ ws → holds C e' a w k v) ∧ (∀ b k, e'.ρ b = some k → b < j + l.length) ∧ (∀ s f, e'.ν s = some f → s / 8 < j + l.length) ∧
      (∀ b b' k, e'.ρ b = some k → e'.ρ b' = some k → b = b') ∧ (∀ b k, e'.ρ b = some k → C.w0.heap.size ≤ k ∧ k < w.heap.size)
  | [], j, ws, e, ks, h, _, hρ, hν, hi, ho => by
    simp [entry] at h; subst h
    exact ⟨e, Ext.refl e, fun k v h => by simp at h, fun b k h => (hρ b k h).1, hν, hi, ho⟩
  | .val t p :: l, j, ws, e, ks, h, ⟨⟨v, h1, h2⟩, h3⟩, hρ, hν, hi, ho => by
    unfold entry at h
    split at h
    · rename_i x lv s' hm
      split at h
      · rename_i hs
        split at h
        · rename_i ws1 hws
          injection h with h; subst h
          have hs := Nat.le_of_ble_eq_true hs
          obtain ⟨e1, g, hx⟩ := mkP_is (e := e) hm hs (fun x hx hxB => by
            cases hc : e.ν x with
            | none => rfl
            | some f => have := hν x f hc; omega) h2
          obtain ⟨e', q1, q2, q3, q4, q5, q6⟩ := entry_is (e := e1) hws h3 (fun b k hb => by rw [g.ρ] at hb; have := hρ b k hb; exact ⟨by omega, this.2⟩) (fun s f hs' => by
            rcases g.ν s f hs' with h | h
            · have := hν s f h; omega
            · omega) (by rw [g.ρ]; exact hi) (by rw [g.ρ]; exact ho)
          refine ⟨e', g.ext.trans q1, ?_, fun b k hb => by have := q3 b k hb; simp only [List.length_cons]; omega, fun s f hs => by have := q4 s f hs; simp only [List.length_cons]; omega, q5, q6⟩
          intro k y hk
          simp only [List.cons_append, List.mem_cons, Prod.mk.injEq, List.mem_append] at hk
          rcases hk with ⟨rfl, rfl⟩ | hk | hk
          · exact ⟨v, h1, hx.ext q1⟩
          · obtain ⟨x, c, rfl, rfl, f, h4, h5⟩ := g.live k y hk
            exact ⟨f, q1.ν _ _ h4, h5⟩
          · exact q2 k y hk
        · cases h
      · cases h
    · cases h
  | .box t ty gs :: l, j, ws, e, ks, h, ⟨k0, vs, h1, h2, h3, h4, h5, h6⟩, hρ, hν, hi, ho => by
    unfold entry at h
    generalize hm : mkGs (j * 8) gs = r at h
    obtain ⟨cs, lv, s'⟩ := r
    simp only at h
    split at h
    · rename_i hs
      split at h
      · rename_i ws1 hws
        injection h with h; subst h
        have hs := Nat.le_of_ble_eq_true hs
        obtain ⟨e1, g, hx⟩ := mkGs_is (e := e) hm hs (fun x hx hxB => by
          cases hc : e.ν x with
          | none => rfl
          | some f => have := hν x f hc; omega) h5
        let e2 : Env := { e1 with ρ := fun b => if b = j then some k0 else e1.ρ b }
        have hj : e2.ρ j = some k0 := by simp [e2]
        have hold : ∀ b k, e2.ρ b = some k → (e.ρ b = some k ∧ b < j) ∨ (b = j ∧ k = k0) := by
          intro b k hb
          by_cases hbj : b = j
          · right
            refine ⟨hbj, ?_⟩
            rw [hbj, hj] at hb
            injection hb with hb
            exact hb.symm
          · left
            have : (if b = j then some k0 else e1.ρ b) = some k := hb
            rw [if_neg hbj, g.ρ] at this
            exact ⟨this, (hρ b k this).1⟩
        have hx2 : Ext e1 e2 := ⟨fun b k hb => by
          show (if b = j then some k0 else e1.ρ b) = some k
          rw [if_neg (fun e0 => by rw [e0, g.ρ] at hb; have := (hρ j k hb).1; omega), hb], fun _ _ h => h⟩
        have hk0 : k0 < w.heap.size := (Array.getElem?_eq_some_iff.1 h4).1
        obtain ⟨e', q1, q2, q3, q4, q5, q6⟩ := entry_is (e := e2) hws h6 (fun b k hb => by
            rcases hold b k hb with ⟨h, hlt⟩ | ⟨rfl, rfl⟩
            · exact ⟨by omega, List.mem_cons_of_mem _ (hρ b k h).2⟩
            · exact ⟨by omega, by simp⟩) (fun s f hs' => by
            rcases g.ν s f hs' with h | h
            · have := hν s f h; omega
            · omega) (fun b b' k hb hb' => by
            rcases hold b k hb with ⟨h, hlt⟩ | ⟨h7, h8⟩ <;> rcases hold b' k hb' with ⟨h', hlt'⟩ | ⟨h9, h10⟩
            · exact hi b b' k h h'
            · exact absurd (h10 ▸ (hρ b k h).2) h3
            · exact absurd (h8 ▸ (hρ b' k h').2) h3
            · rw [h7, h9]) (fun b k hb => by
            rcases hold b k hb with ⟨h, hlt⟩ | ⟨h7, h8⟩
            · exact ho b k h
            · rw [h8]; exact ⟨h2, hk0⟩)
        refine ⟨e', (g.ext.trans hx2).trans q1, ?_, fun b k hb => by have := q3 b k hb; simp only [List.length_cons]; omega, fun s f hs => by have := q4 s f hs; simp only [List.length_cons]; omega, q5, q6⟩
        have hj' : e'.ρ j = some k0 := q1.ρ _ _ hj
        intro k y hk
        simp only [List.cons_append, List.append_assoc, List.mem_cons, Prod.mk.injEq, List.mem_append] at hk
        rcases hk with ⟨rfl, rfl⟩ | ⟨rfl, rfl⟩ | hk | hk | hk
        · exact ⟨_, h1, k0, hj', rfl⟩
        · exact ⟨k0, vs.toArray, hj', h4, by simp [hx.length]⟩
        · obtain ⟨i, c, h7, rfl, rfl⟩ := cellsW_mem hk
          obtain ⟨v, h8, h9⟩ := hx.atA h7
          exact ⟨k0, _, _, v, hj', h4, by simpa using h8, (h9.ext hx2).ext q1⟩
        · obtain ⟨x, c, rfl, rfl, f, h4, h5⟩ := g.live k y hk
          exact ⟨f, q1.ν _ _ (hx2.ν _ _ h4), h5⟩
        · exact q2 k y hk
      · cases h
    · cases h
  | .own _ _ _ _ :: _, _, _, _, _, h, _, _, _, _, _ => by simp [entry] at h
def segB (S : Stat) (T : List Ent) (n : Nat) (c : Code) (pre : List Item) (x : Xt) (post : List Item) : Bool :=
  match entry pre 0 with
  | some ws => match exec S T n c ⟨pre.length, ws⟩ with
    | some (y, st') => match x, y with
      | .normal, .normal => meets (fun k => find k st'.m) post []
      | .ret, .ret => meets (fun k => find k st'.m) post []
      | .exit i, .exit j => match Nat.beq i j with
        | true => meets (fun k => find k st'.m) post []
        | false => false
      | _, _ => false
    | none => false
  | none => false
theorem At.sat {pre : List Item} {ws : Ws} (h : entry pre 0 = some ws) (hA : At C pre a w) : Sat C ⟨pre.length, ws⟩ a w := by
  obtain ⟨e, _, h1, h2, h3, h4, h5⟩ := entry_is (C := C) (a := a) (w := w) (e := ⟨fun _ => none, fun _ => none⟩) (ks := []) h hA.items (fun _ _ h => by cases h) (fun _ _ h => by cases h) (fun _ _ _ h => by cases h) (fun _ _ h => by cases h)
  refine ⟨e, fun k v hk => h1 k v (find_mem hk), ⟨hA.below, hA.defers, hA.size, h4, h5⟩, fun b k hb => ?_, fun s f hs => ?_⟩
  · have := h2 b k hb; simpa using this
  · have := h3 s f hs; simpa using this
theorem Sat.meet {st : St} {post : List Item} (hs : Sat C st a w) (h : meets (fun k => find k st.m) post [] = true) : At C post a w := by
  obtain ⟨e, hk, hg, _, _⟩ := hs
  exact ⟨hg.below, hg.defers, hg.size, meets_is hk hg h (fun k hk => by simp at hk)⟩
theorem seg_is (hC : C.Ok) (hT : ∀ t ∈ T, t.Valid C) {n : Nat} {c : Code} {pre post : List Item} {x : Xt} (h : segB C.toStat T n c pre x post = true) (hA : At C pre a w) (hQ : ∀ a' w', At C post a' w' → Q x.to a' w') : c.wp C.P Q a w := by
  unfold segB at h
  split at h
  · rename_i ws hws
    split at h
    · rename_i y st' he
      have key : ∀ z : Xt, y = z → meets (fun k => find k st'.m) post [] = true → (∀ a' w', At C post a' w' → Q z.to a' w') → c.wp C.P Q a w := by
        intro z hz hm hQ
        subst hz
        refine wp_mono (exec_is hC hT n c _ _ _ he a w (hA.sat hws)) ?_
        rintro e a' w' ⟨rfl, hs⟩
        exact hQ a' w' (hs.meet hm)
      split at h
      · exact key .normal rfl h hQ
      · exact key .ret rfl h hQ
      · rename_i i j
        split at h
        · rename_i hij
          have hij := Nat.eq_of_beq_eq_true hij
          subst hij
          exact key (.exit i) rfl h hQ
        · cases h
      · cases h
    · cases h
  · cases h
theorem loop_is {P : Program} {c : Code} {Θ : Type} (I : Θ → Act → World → Prop) (μ : Θ → Nat)
    (round : ∀ θ a w, I θ a w → c.wp P (Exit.then (fun a' w' => ∃ θ', I θ' a' w' ∧ μ θ' < μ θ) Q) a w) (θ : Θ) (h0 : I θ a w) : (Code.loop c).wp P Q a w := by
  intro b k cs
  have key : ∀ n θ a w, μ θ = n → I θ a w →
      ∃ e a' w', Q e a' w' ∧ Arrives P (lone (b.at a (.code c :: .inLoop c :: k)) cs w) b k cs e a' w' := by
    intro n
    induction n using Nat.strongRecOn with
    | _ n ih =>
      intro θ a w hn hI
      obtain ⟨e, a₁, w₁, hq, harr⟩ := round θ a w hI b (.inLoop c :: k) cs
      cases e with
      | normal =>
        obtain ⟨θ', hI₁, hlt⟩ := hq
        obtain ⟨e₂, a₂, w₂, hq₂, harr₂⟩ := ih (μ θ') (hn ▸ hlt) θ' a₁ w₁ rfl hI₁
        exact ⟨e₂, a₂, w₂, hq₂, .of_steps (Steps.trans harr (.one step_inLoop)) harr₂⟩
      | exit id => exact ⟨_, a₁, w₁, hq, .pass (x := .inLoop c) rfl (fun _ _ => .inl (by simp)) harr⟩
      | goto l => exact ⟨_, a₁, w₁, hq, .pass (x := .inLoop c) rfl (fun _ _ => .inl (by simp)) harr⟩
      | ret => exact ⟨_, a₁, w₁, hq, .pass (x := .inLoop c) rfl (fun _ _ => .inl (by simp)) harr⟩
      | panic ch => exact ⟨_, a₁, w₁, hq, .pass (x := .inLoop c) rfl (fun _ _ => .inl (by simp)) harr⟩
      | outgrown => exact ⟨_, a₁, w₁, hq, .pass (x := .inLoop c) rfl (fun _ _ => .inl (by simp)) harr⟩
  obtain ⟨e, a', w', hq, harr⟩ := key _ θ a w rfl h0
  exact ⟨e, a', w', hq, .of_steps (.one step_loop) harr⟩
end
def seqL : Code → Code
  | .seq a _ => a
  | c => c
def seqR : Code → Code
  | .seq _ b => b
  | c => c
def inner : Code → Code
  | .block _ c => c
  | .loop c => c
  | .scope c => c
  | c => c
def Grp.re (r : Nat → Nat) : Grp → Grp
  | .lit v => .lit v
  | .cls c n => .cls (r c) n
def Pat.re (r : Nat → Nat) : Pat → Pat
  | .one g => .one (g.re r)
  | .agg gs => .agg (gs.map (Grp.re r))
  | .slc t n gs => .slc t n (gs.map (Grp.re r))
def Item.re (r : Nat → Nat) : Item → Item
  | .val t p => .val t (p.re r)
  | .box t ty gs => .box t ty (gs.map (Grp.re r))
  | .own t ty n gs => .own t ty n (gs.map (Grp.re r))
section
variable {C C' : Ctx} {r : Nat → Nat} {w : World}
theorem Grp.re_is (h : ∀ c f, C.E (r c) w f → C'.E c w f) {g : Grp} {vs : List Value} (hg : (g.re r).is C w vs) : g.is C' w vs := by
  cases g with
  | lit v => exact hg
  | cls c n => obtain ⟨f, h1, h2⟩ := hg; exact ⟨f, h c f h1, h2⟩
theorem Grps.re_are (h : ∀ c f, C.E (r c) w f → C'.E c w f) : ∀ {gs : List Grp} {vs : List Value}, GrpsAre C w (gs.map (Grp.re r)) vs → GrpsAre C' w gs vs
  | [], _, hg => hg
  | g :: gs, _, ⟨xs, ys, h1, h2, h3⟩ => ⟨xs, ys, h1, g.re_is h h2, Grps.re_are h h3⟩
theorem Pat.re_is (h : ∀ c f, C.E (r c) w f → C'.E c w f) {p : Pat} {v : Value} (hp : (p.re r).is C w v) : p.is C' w v := by
  cases p with
  | one g => exact Grp.re_is h hp
  | agg gs => obtain ⟨vs, h1, h2⟩ := hp; exact ⟨vs, Grps.re_are h h1, h2⟩
  | slc t n gs => obtain ⟨k, vs, h1, h2, h3⟩ := hp; exact ⟨k, vs, h1, h2, Grps.re_are h h3⟩
theorem Items.re_are (h : ∀ c f, C.E (r c) w f → C'.E c w f) (h0 : C'.w0 = C.w0) {a : Act} : ∀ {l : List Item} {bs : List Nat}, ItemsAre C a w (l.map (Item.re r)) bs → ItemsAre C' a w l bs
  | [], _, _ => trivial
  | .val t p :: l, bs, ⟨⟨v, h1, h2⟩, h3⟩ => ⟨⟨v, h1, Pat.re_is h h2⟩, Items.re_are h h0 h3⟩
  | .box t ty gs :: l, bs, ⟨k, vs, h1, h2, h3, h4, h5, h6⟩ => ⟨k, vs, h1, by rw [h0]; exact h2, h3, h4, Grps.re_are h h5, Items.re_are h h0 h6⟩
  | .own t ty n gs :: l, bs, ⟨⟨k, vs, h1, h2, h4, h5⟩, h6⟩ => ⟨⟨k, vs, h1, by rw [h0]; exact h2, h4, Grps.re_are h h5⟩, Items.re_are h h0 h6⟩
theorem At.re (h : ∀ c f, C.E (r c) w f → C'.E c w f) (h0 : C'.w0 = C.w0) (hn : C'.nt = C.nt) {a : Act} {l l' : List Item} (hl : l' = l.map (Item.re r)) (hA : At C l' a w) : At C' l a w := by
  subst hl
  exact ⟨by rw [h0]; exact hA.below, hA.defers, hA.size.trans hn.symm, Items.re_are h h0 hA.items⟩
end
end Sym
open Go Go.RowKit Go.Proofs Lim
namespace Sym
structure Cl where
  n : Nat
  num : Bool
  p : World → (Nat → Value) → Prop
structure Cl.Ok (okT : List Nat) (B : Nat) (x : Cl) : Prop where
  below : ∀ w w' f, Below w.heap.size w w' → x.p w f → x.p w' f
  only : ∀ w w' R f cs t, B ≤ R → w.heap[R]? = some (.cells cs t (0, 0)) → t ∈ okT → (∀ x, cs[0]? = some x → noSl x = true) → boxFull Tryz.prog t cs.size = true → Only R w w' → x.p w f → x.p w' f
  num : ∀ w f, x.num = true → x.p w f → noSl (f 0) = true
  cell : ∀ w f j, x.p w f → j < x.n → (f j).oneCell' = true
noncomputable def mkC (csz : List Nat) (numc : List Bool) (okT : List Nat) (nt : Nat) (cl : List Cl) (w0 : World) : Ctx :=
  { P := Tryz.prog, csz, numc, okT, nt, E := fun c w f => match cl[c]? with | some x => x.p w f | none => False, w0 }
theorem mkC_ok {csz : List Nat} {numc : List Bool} {okT : List Nat} {nt : Nat} {cl : List Cl} {w0 : World} (h : ∀ x ∈ cl, x.Ok okT w0.heap.size) (h1 : cl.map (·.n) = csz) (h2 : cl.map (·.num) = numc) : (mkC csz numc okT nt cl w0).Ok := by
  refine ⟨?_, ?_, ?_, ?_, by kernel_rfl⟩
  · intro c w w' f hb hE
    simp only [mkC] at hE ⊢
    split at hE
    · rename_i x hx
      exact (h x (List.mem_of_getElem? hx)).below w w' f hb hE
    · exact hE
  · intro c w w' R f cs t hB ho ht hz hf hb hE
    simp only [mkC] at hE ⊢
    split at hE
    · rename_i x hx
      exact (h x (List.mem_of_getElem? hx)).only w w' R f cs t hB ho ht hz hf hb hE
    · exact hE
  · intro c w f hn hE
    simp only [mkC] at hE hn
    split at hE
    · rename_i x hx
      refine (h x (List.mem_of_getElem? hx)).num w f ?_ hE
      rw [← h2] at hn
      simpa [List.getD, hx] using hn
    · exact hE.elim
  · intro c w f j hE hj
    simp only [mkC] at hE hj
    split at hE
    · rename_i x hx
      refine (h x (List.mem_of_getElem? hx)).cell w f j hE ?_
      rw [← h1] at hj
      simpa [List.getD, hx] using hj
    · exact hE.elim
def clV (v : Value) : Cl := ⟨1, noSl v, fun _ f => f 0 = v⟩
theorem clV_ok {okT : List Nat} {B : Nat} {v : Value} (hv : v.oneCell' = true) : (clV v).Ok okT B := by
  refine ⟨fun w w' f hb h => h, fun w w' R f cs t _ ho hm hz _ hb h => h, ?_, ?_⟩
  · intro w f h1 h
    rw [show f 0 = v from h]
    exact h1
  · intro w f j h hj
    have hj : j < 1 := hj
    obtain rfl : j = 0 := by omega
    rw [show f 0 = v from h]
    exact hv
def vp (v : Value) : Pat := .one (.lit v)
def op (c : Nat) : Pat := .one (.cls c 1)
section
variable {csz : List Nat} {numc : List Bool} {okT : List Nat} {nt : Nat} {cl : List Cl} {w0 : World} {w : World} {v : Value} {c d c1 c2 c3 c4 c5 c6 : Nat}
theorem op_is {x : Value} (h : cl[c]? = some (clV x)) : (op c).is (mkC csz numc okT nt cl w0) w v ↔ v = x := by
  constructor
  · rintro ⟨f, hE, hv⟩
    simp only [mkC, h] at hE
    have : v = f 0 := by simpa [List.range_succ] using hv
    rw [this]; exact hE
  · rintro rfl
    refine ⟨fun _ => v, ?_, rfl⟩
    simp only [mkC, h]
    rfl
theorem vp_is {C : Ctx} {x : Value} : (vp x).is C w v ↔ v = x := by
  constructor
  · intro h
    have h : [v] = [x] := h
    simpa using h
  · rintro rfl; exact rfl
theorem vp_r (C : Ctx) (w : World) (x : Value) : RPat.is C w (.val (vp x)) x := rfl
abbrev V (csz : List Nat) (numc : List Bool) (okT : List Nat) (nt : Nat) (cl : List Cl) (w0 : World) (hd : Hd) (args : List Pat) (res : RPat) : Prop := Ent.Valid (mkC csz numc okT nt cl w0) ⟨hd, args, res⟩
theorem forall_nil {P : Ent → Prop} : ∀ t ∈ ([] : List Ent), P t := fun t h => by simp at h
theorem forall_cons {P : Ent → Prop} {a : Ent} {l : List Ent} (h : P a) (k : ∀ t ∈ l, P t) : ∀ t ∈ a :: l, P t := fun t ht => by
  rcases List.mem_cons.1 ht with rfl | ht
  · exact h
  · exact k t ht
theorem oks_nil {okT : List Nat} {B : Nat} : ∀ x ∈ ([] : List Cl), x.Ok okT B := fun t h => by simp at h
theorem oks_cons {okT : List Nat} {B : Nat} {a : Cl} {l : List Cl} (h : a.Ok okT B) (k : ∀ t ∈ l, t.Ok okT B) : ∀ t ∈ a :: l, t.Ok okT B := fun t ht => by
  rcases List.mem_cons.1 ht with rfl | ht
  · exact h
  · exact k t ht
def bodyOf (fn : Func) : Code := match fn.body with | some c => c | none => .skip
theorem val_of {C : Ctx} {w : World} {x v : Value} (h : RPat.is C w (.val (vp x)) v) : v = x := by
  have h : [v] = [x] := h
  simpa using h
theorem run_mk {T : List Ent} (hC : (mkC csz numc okT nt cl w0).Ok) (hT : ∀ t ∈ T, t.Valid (mkC csz numc okT nt cl w0)) (f : FuncId) (fn : Func) (args : List Pat) (res : RPat) (n : Nat) (hf : Tryz.prog.funcs[f]? = some fn) (hb : fn.body = some (bodyOf fn)) (hnt : fn.ntmps = nt)
    (hlen : Nat.ble args.length nt = true) (hrun : runB ⟨Tryz.prog, csz, numc, okT, nt⟩ T n (bodyOf fn) fn.results.toList args res = true) (vs : List Value) (hvs : PatsAre (mkC csz numc okT nt cl w0) w0 args vs) :
    Calls Tryz.prog f vs.toArray w0 (fun e w' => ∃ v, e = .returned v ∧ res.is (mkC csz numc okT nt cl w0) w' v ∧ Below w0.heap.size w0 w') :=
  calls_run hC hT hf hb rfl hnt (Nat.le_of_ble_eq_true hlen) hrun vs hvs
end
end Sym
open Go Go.RowKit Go.Proofs Lim
theorem run_add64 (x y : Nat) (w : World) :
    (callFunc 149 #[.int .u64 (x : Int), .int .u64 (y : Int), .int .u64 0]).run Tryz.prog w =
      .ok (.value (.tuple #[u (sumLo x y), u (sumHi x y)])) w := by
  rw [run_callFunc_extern Tryz.func149 (by kernel_rfl) (by kernel_rfl) (by kernel_rfl) (e := add64Entry) (by kernel_rfl)]
  rfl
theorem run_sub64 (x y : Nat) (w : World) :
    (callFunc 180 #[.int .u64 (x : Int), .int .u64 (y : Int), .int .u64 0]).run Tryz.prog w =
      .ok (.value (.tuple #[u (difLo x y), u (difHi x y)])) w := by
  rw [run_callFunc_extern Tryz.func180 (by kernel_rfl) (by kernel_rfl) (by kernel_rfl) (e := sub64Entry) (by kernel_rfl)]
  rfl
theorem mul64 (x y : Nat) (hx : x < B) (hy : y < B) (w : World) :
    Calls Tryz.prog 132 #[u x, u y] w fun e w' => e = .returned (.tuple #[u (prodHi x y), u (prodLo x y)]) ∧ w = w' :=
  (Tryz.bits_Mul64 x y hx hy w).mono fun _ _ ⟨h, h'⟩ => ⟨h, h'.symm⟩
theorem mul_step {s y f c : Nat} (hs : s < B) (hy : y < B) (hf : f < B) (hc : c < B) :
    sumLo s (sumLo (prodLo y f) c) + B * (prodHi y f + sumHi (prodLo y f) c + sumHi s (sumLo (prodLo y f) c)) = s + y * f + c ∧
      prodHi y f + sumHi (prodLo y f) c + sumHi s (sumLo (prodLo y f) c) < B := by
  have h1 := prod_eq y f
  have h2 := sum_eq (prodLo y f) c
  have h3 := sum_eq s (sumLo (prodLo y f) c)
  have e : sumLo s (sumLo (prodLo y f) c) + B * (prodHi y f + sumHi (prodLo y f) c + sumHi s (sumLo (prodLo y f) c)) = s + y * f + c := by
    rw [Nat.mul_add, Nat.mul_add]; omega
  refine ⟨e, ?_⟩
  have i1 : y * f ≤ (B - 1) * (B - 1) := Nat.mul_le_mul (by omega) (by omega)
  have i2 : (B - 1) * (B - 1) + 2 * (B - 1) + 1 = B * B := by
    have : B = (B - 1) + 1 := by have := B_pos; omega
    generalize B - 1 = k at *
    rw [this]; grind
  have i3 : B * (prodHi y f + sumHi (prodLo y f) c + sumHi s (sumLo (prodLo y f) c)) < B * B := by omega
  exact Nat.lt_of_mul_lt_mul_left i3
attribute [local go_sem] run_add64 run_sub64
structure Added (L L' : List Nat) (so n x c : Nat) : Prop where
  len : L'.length = L.length
  ok : Ok L'
  low : L'.take so = L.take so
  high : L'.drop (so + n) = L.drop (so + n)
  sum : val L' + B ^ (so + n) * c = val L + B ^ so * x
structure Taken (L L' : List Nat) (so n x c : Nat) : Prop where
  len : L'.length = L.length
  ok : Ok L'
  low : L'.take so = L.take so
  high : L'.drop (so + n) = L.drop (so + n)
  sum : val L' + B ^ so * x = val L + B ^ (so + n) * c
theorem take_set_lt (l : List Nat) (k v so : Nat) (h : so ≤ k) : (l.set k v).take so = l.take so := by
  rw [List.take_set, List.set_eq_of_length_le (by simp; omega)]
theorem drop_set_lt (l : List Nat) (k v so : Nat) (h : k < so) : (l.set k v).drop so = l.drop so := by
  rw [List.drop_set, if_pos h]
theorem Added.start (L : List Nat) (so : Nat) (h : Ok L) : Added L L so 0 0 0 := ⟨rfl, h, rfl, rfl, by simp⟩
theorem Taken.start (L : List Nat) (so : Nat) (h : Ok L) : Taken L L so 0 0 0 := ⟨rfl, h, rfl, rfl, by simp⟩
theorem Added.step {L L' : List Nat} {so k x c s' c' y : Nat} (h : Added L L' so k x c) (hk : so + k < L.length) (hs' : s' < B)
    (e : s' + B * c' = L'[so + k]?.getD 0 + y + c) : Added L (L'.set (so + k) s') so (k + 1) (x + B ^ k * y) c' := by
  refine ⟨by rw [List.length_set, h.len], h.ok.set _ _ hs', by rw [take_set_lt _ _ _ _ (by omega), h.low], ?_, ?_⟩
  · rw [drop_set_lt _ _ _ _ (by omega), show so + (k + 1) = so + k + 1 from rfl, ← List.drop_drop, h.high, List.drop_drop]
  · have h1 := val_set L' (so + k) s' (by rw [h.len]; exact hk)
    have h2 := h.sum
    have e2 : B ^ (so + k) * s' + B ^ (so + k) * B * c' = B ^ (so + k) * L'[so + k]?.getD 0 + B ^ (so + k) * y + B ^ (so + k) * c := by
      rw [Nat.mul_assoc, ← Nat.mul_add, e, Nat.mul_add, Nat.mul_add]
    have e3 : B ^ (so + (k + 1)) = B ^ (so + k) * B := by rw [← Nat.add_assoc, Nat.pow_succ]
    have e4 : B ^ so * (x + B ^ k * y) = B ^ so * x + B ^ (so + k) * y := by rw [Nat.mul_add, ← Nat.mul_assoc, ← Nat.pow_add]
    rw [e3, e4]
    omega
theorem Taken.step {L L' : List Nat} {so k x c s' c' y : Nat} (h : Taken L L' so k x c) (hk : so + k < L.length) (hs' : s' < B)
    (e : s' + y + c = L'[so + k]?.getD 0 + B * c') : Taken L (L'.set (so + k) s') so (k + 1) (x + B ^ k * y) c' := by
  refine ⟨by rw [List.length_set, h.len], h.ok.set _ _ hs', by rw [take_set_lt _ _ _ _ (by omega), h.low], ?_, ?_⟩
  · rw [drop_set_lt _ _ _ _ (by omega), show so + (k + 1) = so + k + 1 from rfl, ← List.drop_drop, h.high, List.drop_drop]
  · have h1 := val_set L' (so + k) s' (by rw [h.len]; exact hk)
    have h2 := h.sum
    have e2 : B ^ (so + k) * s' + B ^ (so + k) * y + B ^ (so + k) * c = B ^ (so + k) * L'[so + k]?.getD 0 + B ^ (so + k) * B * c' := by
      rw [Nat.mul_assoc, ← Nat.mul_add, ← Nat.mul_add, e, Nat.mul_add]
    have e3 : B ^ (so + (k + 1)) = B ^ (so + k) * B := by rw [← Nat.add_assoc, Nat.pow_succ]
    have e4 : B ^ so * (x + B ^ k * y) = B ^ so * x + B ^ (so + k) * y := by rw [Nat.mul_add, ← Nat.mul_assoc, ← Nat.pow_add]
    rw [e3, e4]
    omega
theorem Added.wider {L L' : List Nat} {so k n x : Nat} (h : Added L L' so k x 0) (hk : k ≤ n) : Added L L' so n x 0 := by
  refine ⟨h.len, h.ok, h.low, ?_, by simpa using h.sum⟩
  rw [show so + n = so + k + (n - k) from by omega, ← List.drop_drop, h.high, List.drop_drop]
theorem Taken.wider {L L' : List Nat} {so k n x : Nat} (h : Taken L L' so k x 0) (hk : k ≤ n) : Taken L L' so n x 0 := by
  refine ⟨h.len, h.ok, h.low, ?_, by simpa using h.sum⟩
  rw [show so + n = so + k + (n - k) from by omega, ← List.drop_drop, h.high, List.drop_drop]
def AddPost (w : World) (b so n : Nat) (L : List Nat) (x : Nat) (e : Ending) (w' : World) : Prop :=
  e = .returned (.tuple #[]) ∧ Only b w w' ∧ ∃ c L', Blk w' b L' ∧ Added L L' so n x c
def AddRel (w : World) (b so : Nat) (L : List Nat) (k x : Nat) (carry i : Value) (wr : World) : Prop :=
  ∃ c L', i = .int .i64 (k : Int) ∧ carry = u c ∧ c < B ∧ Blk wr b L' ∧ Added L L' so k x c ∧ Only b w wr
theorem addMultiple_any (b so n : Nat) (scap ycap : Nat) (L Y : List Nat) (ya : Option Addr) (f : Nat) (w : World)
    (hL : Blk w b L) (hn : so + n ≤ L.length) (hlen : Y.length ≤ n) (hmax : (n : Int) ≤ 4611686018427387904) (hf : f < B) (okL : Ok L) (okY : Ok Y)
    (hY : 0 < Y.length → ∃ yb yo, ya = some ⟨yb, yo, none⟩ ∧ yb ≠ b ∧ Row w yb yo Y) :
    Calls Tryz.prog 142 #[.slice (some ⟨b, so, none⟩) n scap, .slice ya Y.length ycap, u f] w (AddPost w b so n L (f * val Y)) := by
  have HY := Lib.hid hY
  have HL := Lib.hid hL
  have HokL := Lib.hid okL
  have HokY := Lib.hid okY
  clear hY hL okL okY
  go_enter Tryz.func142, Tryz.ntmps142
  go_wp2_with fail
  go_loopw [6, 15] (fun carry i wr => ∃ k, k ≤ Y.length ∧ AddRel w b so L k (f * val (Y.take k)) carry i wr) (fun _ i _ => Y.length - (intOf i).toNat)
  case atStart => exact ⟨0, Nat.zero_le _, 0, L, rfl, rfl, B_pos, HL.out, by simpa [val] using Added.start L so HokL.out, Only.refl b w⟩
  case round =>
    obtain ⟨k, hk, c, L', rfl, rfl, hc, hB, hA, hO⟩ := hrel
    by_cases hlt : k < Y.length
    · obtain ⟨yb, yo, rfl, hyb, hrow⟩ := HY.out (by omega)
      have hlen' : L'.length = L.length := hA.len
      have hyc : wr.cell? ⟨yb, yo + k, none⟩ = some (u (Y[k]?.getD 0)) := (hO.cell (p := ⟨yb, yo + k, none⟩) hyb).trans (hrow k hlt)
      have hsc : wr.cell? ⟨b, so + k, none⟩ = some (u (L'[so + k]?.getD 0)) := hB.cell (so + k) (by omega)
      have hfz : wr.frozen? ⟨b, so + k, none⟩ = false := hB.frozen _
      have hy : Y[k]?.getD 0 < B := HokY.out.get k
      have hs : L'[so + k]?.getD 0 < B := hA.ok.get _
      generalize hyg : Y[k]?.getD 0 = y at *
      generalize hsg : L'[so + k]?.getD 0 = s at *
      have HA := Lib.hid hA
      have HB := Lib.hid hB
      have HO := Lib.hid hO
      have H1 := Lib.hid hyg
      have H2 := Lib.hid hsg
      have H3 := Lib.hid hlen'
      have H4 := Lib.hid (mul_step hs hy hf hc)
      clear hA hB hO hyg hsg hlen' hrow
      go_wp2_with (go_at_call 132; refine (mul64 _ _ (by assumption) (by assumption) _).mono ?_; rintro e w' ⟨rfl, rfl⟩)
      go_roundw
      case rel =>
        refine ⟨k + 1, by omega, _, _, by go_num, by rw [wrap_add3 H4.out.2], H4.out.2, HB.out.set (so + k) _ (by have := HA.out.len; omega), ?_, HO.out.set (so + k) _⟩
        rw [val_take_succ _ _ hlt, H1.out, Nat.mul_add, show f * (B ^ k * y) = B ^ k * (y * f) from by grind]
        exact HA.out.step (by omega) (sumLo_lt _ _) (by rw [H2.out]; exact H4.out.1)
      case measure => simp [intOf]; omega
    · have hkn : k = Y.length := by omega
      subst hkn
      have HA := Lib.hid hA
      have HB := Lib.hid hB
      have HO := Lib.hid hO
      clear hA hB hO
      go_wp2_with fail
      have hle := hlen
      obtain ⟨k0, hk0⟩ : ∃ k0, k0 = Y.length := ⟨_, rfl⟩
      have HK := Lib.hid hk0
      obtain ⟨w1, hw1⟩ : ∃ w1, w1 = wr := ⟨_, rfl⟩
      subst hw1
      go_loopw [6, 12] (fun carry i wr => ∃ k, Y.length ≤ k ∧ k ≤ n ∧ AddRel w b so L k (f * val Y) carry i wr) (fun _ i _ => n - (intOf i).toNat)
      case atStart => exact ⟨Y.length, Nat.le_refl _, hlen, c, L', rfl, rfl, hc, HB.out, by simpa using HA.out, HO.out⟩
      case round =>
        clear HA HB HO
        obtain ⟨k, hk1, hk2, c, L', rfl, rfl, hc, hB, hA, hO⟩ := hrel
        have HA := Lib.hid hA
        have HB := Lib.hid hB
        have HO := Lib.hid hO
        clear hA hB hO
        by_cases hc0 : c = 0
        · have hcb : (((c : Nat) : Int) != 0) = false := by subst hc0; rfl
          clear hc0
          go_wp2_with fail
          go_end0
          refine ⟨rfl, HO.out, 0, L', HB.out, ?_⟩
          have h0 : c = 0 := by simpa using hcb
          subst h0
          exact HA.out.wider hk2
        · have hcb : (((c : Nat) : Int) != 0) = true := by rw [bne_iff_ne]; omega
          clear hc0
          by_cases hlt2 : k < n
          · have hlen' : L'.length = L.length := HA.out.len
            have hsc : wr.cell? ⟨b, so + k, none⟩ = some (u (L'[so + k]?.getD 0)) := HB.out.cell (so + k) (by omega)
            have hfz : wr.frozen? ⟨b, so + k, none⟩ = false := HB.out.frozen _
            generalize hsg : L'[so + k]?.getD 0 = s at *
            have H2 := Lib.hid hsg
            have H3 := Lib.hid hlen'
            have H4 := sum_eq s c
            have HH4 := Lib.hid H4
            clear H4 hsg hlen'
            go_wp2_with fail
            go_roundw
            case rel =>
              refine ⟨k + 1, by omega, by omega, _, _, by go_num, rfl, ?_, HB.out.set (so + k) _ (by have := HA.out.len; omega), ?_, HO.out.set (so + k) _⟩
              · exact Nat.lt_of_le_of_lt (sumHi_le (by rw [← H2.out]; exact HA.out.ok.get _) hc) (by decide)
              · have := HA.out.step (y := 0) (by omega) (sumLo_lt s c) (c' := sumHi s c) (by rw [H2.out, HH4.out]; omega)
                simpa using this
            case measure => simp [intOf]; omega
          · go_wp2_with fail
            go_end0
            obtain rfl : k = n := by omega
            exact ⟨rfl, HO.out, c, L', HB.out, HA.out⟩
theorem addMultiple_one (b so n : Nat) (scap ycap : Nat) (L Y : List Nat) (ya : Option Addr) (w : World)
    (hL : Blk w b L) (hn : so + n ≤ L.length) (hlen : Y.length ≤ n) (hmax : (n : Int) ≤ 4611686018427387904) (okL : Ok L) (okY : Ok Y)
    (hY : 0 < Y.length → ∃ yb yo, ya = some ⟨yb, yo, none⟩ ∧ yb ≠ b ∧ Row w yb yo Y) :
    Calls Tryz.prog 142 #[.slice (some ⟨b, so, none⟩) n scap, .slice ya Y.length ycap, .int .u64 1] w (AddPost w b so n L (val Y)) := by
  have := addMultiple_any b so n scap ycap L Y ya 1 w hL hn hlen hmax (by decide) okL okY hY
  rw [Nat.one_mul] at this
  exact this
open Go Go.RowKit Go.Proofs Lim
attribute [local go_sem] run_add64 run_sub64
theorem take_step {s y f c : Nat} (hs : s < B) (hy : y < B) (hf : f < B) (hc : c < B) :
    difLo s (sumLo (prodLo y f) c) + y * f + c = s + B * (prodHi y f + sumHi (prodLo y f) c + difHi s (sumLo (prodLo y f) c)) ∧
      prodHi y f + sumHi (prodLo y f) c + difHi s (sumLo (prodLo y f) c) < B := by
  have h1 := prod_eq y f
  have h2 := sum_eq (prodLo y f) c
  have h3 := dif_eq hs (sumLo_lt (prodLo y f) c)
  have h4 := difLo_lt s (sumLo (prodLo y f) c)
  have e : difLo s (sumLo (prodLo y f) c) + y * f + c = s + B * (prodHi y f + sumHi (prodLo y f) c + difHi s (sumLo (prodLo y f) c)) := by
    rw [Nat.mul_add, Nat.mul_add]; omega
  refine ⟨e, ?_⟩
  have i1 : y * f ≤ (B - 1) * (B - 1) := Nat.mul_le_mul (by omega) (by omega)
  have i2 : (B - 1) * (B - 1) + 2 * (B - 1) + 1 = B * B := by
    have : B = (B - 1) + 1 := by have := B_pos; omega
    generalize B - 1 = k at *
    rw [this]; grind
  have i3 : B * (prodHi y f + sumHi (prodLo y f) c + difHi s (sumLo (prodLo y f) c)) < B * B := by omega
  exact Nat.lt_of_mul_lt_mul_left i3
def TakePost (w : World) (b so n : Nat) (L : List Nat) (x : Nat) (e : Ending) (w' : World) : Prop :=
  ∃ c L', c < B ∧ e = .returned (u c) ∧ Only b w w' ∧ Blk w' b L' ∧ Taken L L' so n x c
def TakeRel (w : World) (b so : Nat) (L : List Nat) (k x : Nat) (carry i : Value) (wr : World) : Prop :=
  ∃ c L', i = .int .i64 (k : Int) ∧ carry = u c ∧ c < B ∧ Blk wr b L' ∧ Taken L L' so k x c ∧ Only b w wr
theorem takeMultiple_any (b so n : Nat) (scap ycap : Nat) (L Y : List Nat) (ya : Option Addr) (f : Nat) (w : World)
    (hL : Blk w b L) (hn : so + n ≤ L.length) (hlen : Y.length ≤ n) (hmax : (n : Int) ≤ 4611686018427387904) (hf : f < B) (okL : Ok L) (okY : Ok Y)
    (hY : 0 < Y.length → ∃ yb yo, ya = some ⟨yb, yo, none⟩ ∧ yb ≠ b ∧ Row w yb yo Y) :
    Calls Tryz.prog 171 #[.slice (some ⟨b, so, none⟩) n scap, .slice ya Y.length ycap, u f] w (TakePost w b so n L (f * val Y)) := by
  have HY := Lib.hid hY
  have HL := Lib.hid hL
  have HokL := Lib.hid okL
  have HokY := Lib.hid okY
  clear hY hL okL okY
  go_enter Tryz.func171, Tryz.ntmps171
  go_wp2_with fail
  go_loopw [6, 15] (fun carry i wr => ∃ k, k ≤ Y.length ∧ TakeRel w b so L k (f * val (Y.take k)) carry i wr) (fun _ i _ => Y.length - (intOf i).toNat)
  case atStart => exact ⟨0, Nat.zero_le _, 0, L, rfl, rfl, B_pos, HL.out, by simpa [val] using Taken.start L so HokL.out, Only.refl b w⟩
  case round =>
    obtain ⟨k, hk, c, L', rfl, rfl, hc, hB, hA, hO⟩ := hrel
    by_cases hlt : k < Y.length
    · obtain ⟨yb, yo, rfl, hyb, hrow⟩ := HY.out (by omega)
      have hlen' : L'.length = L.length := hA.len
      have hyc : wr.cell? ⟨yb, yo + k, none⟩ = some (u (Y[k]?.getD 0)) := (hO.cell (p := ⟨yb, yo + k, none⟩) hyb).trans (hrow k hlt)
      have hsc : wr.cell? ⟨b, so + k, none⟩ = some (u (L'[so + k]?.getD 0)) := hB.cell (so + k) (by omega)
      have hfz : wr.frozen? ⟨b, so + k, none⟩ = false := hB.frozen _
      have hy : Y[k]?.getD 0 < B := HokY.out.get k
      have hs : L'[so + k]?.getD 0 < B := hA.ok.get _
      generalize hyg : Y[k]?.getD 0 = y at *
      generalize hsg : L'[so + k]?.getD 0 = s at *
      have HA := Lib.hid hA
      have HB := Lib.hid hB
      have HO := Lib.hid hO
      have H1 := Lib.hid hyg
      have H2 := Lib.hid hsg
      have H3 := Lib.hid hlen'
      have H4 := Lib.hid (take_step hs hy hf hc)
      clear hA hB hO hyg hsg hlen' hrow
      go_wp2_with (go_at_call 132; refine (mul64 _ _ (by assumption) (by assumption) _).mono ?_; rintro e w' ⟨rfl, rfl⟩)
      go_roundw
      case rel =>
        refine ⟨k + 1, by omega, _, _, by go_num, by rw [wrap_add3 H4.out.2], H4.out.2, HB.out.set (so + k) _ (by have := HA.out.len; omega), ?_, HO.out.set (so + k) _⟩
        rw [val_take_succ _ _ hlt, H1.out, Nat.mul_add, show f * (B ^ k * y) = B ^ k * (y * f) from by grind]
        exact HA.out.step (by omega) (difLo_lt _ _) (by rw [H2.out]; exact H4.out.1)
      case measure => simp [intOf]; omega
    · have hkn : k = Y.length := by omega
      subst hkn
      have HA := Lib.hid hA
      have HB := Lib.hid hB
      have HO := Lib.hid hO
      clear hA hB hO
      go_wp2_with fail
      have hle := hlen
      obtain ⟨k0, hk0⟩ : ∃ k0, k0 = Y.length := ⟨_, rfl⟩
      have HK := Lib.hid hk0
      obtain ⟨w1, hw1⟩ : ∃ w1, w1 = wr := ⟨_, rfl⟩
      subst hw1
      go_loopw [6, 12] (fun carry i wr => ∃ k, Y.length ≤ k ∧ k ≤ n ∧ TakeRel w b so L k (f * val Y) carry i wr) (fun _ i _ => n - (intOf i).toNat)
      case atStart => exact ⟨Y.length, Nat.le_refl _, hlen, c, L', rfl, rfl, hc, HB.out, by simpa using HA.out, HO.out⟩
      case round =>
        clear HA HB HO
        obtain ⟨k, hk1, hk2, c, L', rfl, rfl, hc, hB, hA, hO⟩ := hrel
        have HA := Lib.hid hA
        have HB := Lib.hid hB
        have HO := Lib.hid hO
        clear hA hB hO
        by_cases hc0 : c = 0
        · have hcb : (((c : Nat) : Int) != 0) = false := by subst hc0; rfl
          clear hc0
          go_wp2_with fail
          go_ret
          have h0 : c = 0 := by simpa using hcb
          subst h0
          exact ⟨0, L', B_pos, rfl, HO.out, HB.out, HA.out.wider hk2⟩
        · have hcb : (((c : Nat) : Int) != 0) = true := by rw [bne_iff_ne]; omega
          clear hc0
          by_cases hlt2 : k < n
          · have hlen' : L'.length = L.length := HA.out.len
            have hsc : wr.cell? ⟨b, so + k, none⟩ = some (u (L'[so + k]?.getD 0)) := HB.out.cell (so + k) (by omega)
            have hfz : wr.frozen? ⟨b, so + k, none⟩ = false := HB.out.frozen _
            generalize hsg : L'[so + k]?.getD 0 = s at *
            have H2 := Lib.hid hsg
            have H3 := Lib.hid hlen'
            have H4 := dif_eq (x := s) (y := c) (by rw [← hsg]; exact HA.out.ok.get _) hc
            have HH4 := Lib.hid H4
            clear H4 hsg hlen'
            go_wp2_with fail
            go_roundw
            case rel =>
              refine ⟨k + 1, by omega, by omega, _, _, by go_num, rfl, ?_, HB.out.set (so + k) _ (by have := HA.out.len; omega), ?_, HO.out.set (so + k) _⟩
              · exact Nat.lt_of_le_of_lt (difHi_le s c) (by decide)
              · have := HA.out.step (y := 0) (by omega) (difLo_lt s c) (c' := difHi s c) (by rw [H2.out, ← HH4.out]; omega)
                simpa using this
            case measure => simp [intOf]; omega
          · go_wp2_with fail
            go_ret
            obtain rfl : k = n := by omega
            exact ⟨c, L', hc, rfl, HO.out, HB.out, HA.out⟩
theorem takeMultiple_one (b so n : Nat) (scap ycap : Nat) (L Y : List Nat) (ya : Option Addr) (w : World)
    (hL : Blk w b L) (hn : so + n ≤ L.length) (hlen : Y.length ≤ n) (hmax : (n : Int) ≤ 4611686018427387904) (okL : Ok L) (okY : Ok Y)
    (hY : 0 < Y.length → ∃ yb yo, ya = some ⟨yb, yo, none⟩ ∧ yb ≠ b ∧ Row w yb yo Y) :
    Calls Tryz.prog 171 #[.slice (some ⟨b, so, none⟩) n scap, .slice ya Y.length ycap, .int .u64 1] w (TakePost w b so n L (val Y)) := by
  have := takeMultiple_any b so n scap ycap L Y ya 1 w hL hn hlen hmax (by decide) okL okY hY
  rw [Nat.one_mul] at this
  exact this
open Go Go.RowKit Go.Proofs Lim
theorem val_take_zero {l : List Nat} {k : Nat} (hk : k < l.length) (h0 : l[k]?.getD 0 = 0) : val (l.take (k + 1)) = val (l.take k) := by
  rw [val_take_succ l k hk, h0]; simp
theorem trim_take {l : List Nat} {k : Nat} (hk : k < l.length) (h0 : l[k]?.getD 0 ≠ 0) : Trim (l.take (k + 1)) := by
  intro hne
  simp only [take_succ_get l k hk, List.getLast_append, List.getLast_singleton]
  simpa using h0
def NatPost (w : World) (n : Nat) (e : Ending) (w' : World) : Prop := ∃ v, e = .returned v ∧ IsNat w v n ∧ w = w'
theorem trim_any (xs : List Nat) (v : Value) (w : World) (hv : Sl w v xs) (hmax : (xs.length : Int) ≤ 4611686018427387904) :
    Calls Tryz.prog 143 #[v] w (NatPost w (val xs)) := by
  obtain ⟨⟨ao, cap, rfl, hc1, hc2, hr⟩, hok, typ⟩ := hv
  have HTy := Lib.hid typ
  clear typ
  unfold maxLen at hc2
  have HR := Lib.hid hr
  have HO := Lib.hid hok
  clear hr hok
  go_enter Tryz.func143, Tryz.ntmps143
  go_wp2_with fail
  go_loop [3] (fun i => ∃ k, k ≤ xs.length ∧ i = .int .i64 (k : Int) ∧ val (xs.take k) = val xs) (fun i => (intOf i).toNat)
  case atStart => exact ⟨xs.length, Nat.le_refl _, rfl, by simp⟩
  case round =>
    obtain ⟨k, hk, rfl, hval⟩ := hrel
    have HV := Lib.hid hval
    clear hval
    by_cases hk0 : 0 < k
    · obtain ⟨j, rfl⟩ : ∃ j, k = j + 1 := ⟨k - 1, by omega⟩
      obtain ⟨b, off, rfl, hrow⟩ := HR.out (by omega)
      have hcell : w.cell? ⟨b, off + j, none⟩ = some (u (xs[j]?.getD 0)) := hrow j (by omega)
      have HRow := Lib.hid hrow
      clear hrow
      by_cases hz : xs[j]?.getD 0 = 0
      · have hzz := hz
        rw [hz] at hcell
        have HZ := Lib.hid hzz
        clear hz hzz
        go_wp2_with fail
        go_round
        case rel => exact ⟨j, by omega, rfl, by rw [← HV.out, val_take_zero (by omega) HZ.out]⟩
        case measure => simp [intOf]
      · have HZ := Lib.hid hz
        have hb : (((xs[j]?.getD 0 : Nat) : Int) == 0) = false := by rw [beq_eq_false_iff_ne]; omega
        generalize hsg : xs[j]?.getD 0 = s at *
        have H2 := Lib.hid hsg
        clear hsg hz
        go_wp2_with fail
        go_ret
        have hlt : (xs.take (j + 1)).length = j + 1 := by rw [List.length_take]; omega
        refine ⟨_, rfl, ⟨xs.take (j + 1), ⟨⟨some ⟨b, off, none⟩, j + 1, by rw [hlt]; rfl, by omega, by unfold maxLen; omega, fun _ => ⟨b, off, rfl, ?_⟩⟩, HO.out.take _, ?_⟩, trim_take (by omega) (by rw [H2.out]; intro h; subst h; simp at hb), HV.out⟩, rfl⟩
        · intro i hi
          rw [HRow.out i (by omega), List.getElem?_take, if_pos (by omega)]
        · intro a n c e _
          injection e with e
          exact HTy.out a _ _ (by rw [e]) (by omega)
    · obtain rfl : k = 0 := by omega
      clear hk0
      go_wp2_with fail
      go_ret
      refine ⟨_, rfl, ⟨[], ⟨⟨ao, 0, rfl, by simp, by unfold maxLen; omega, fun h => absurd h (by simp)⟩, Ok.nil, fun a n c e hn => by injection e with _ e; omega⟩, fun h => absurd rfl h, by simpa using HV.out⟩, rfl⟩
theorem word_any (x : Nat) (w : World) (hx : x < B) : Calls Tryz.prog 119 #[u x] w (NatNew w x) := by
  go_enter Tryz.func119, Tryz.ntmps119
  go_wp2_with fail
  have hb : Blk (w.alloc (.cells ([x].map u).toArray 23)) w.heap.size [x] := Blk.new w [x]
  have hs := Sl.of_blk hb (Ok.nil.cons hx) 0 1 1 (by simp) (by simp) (by unfold maxLen; omega)
  refine (trim_any [x] _ _ hs (by simp)).mono ?_
  rintro e w' ⟨v, rfl, hn, rfl⟩
  go_wp2_with fail
  go_ret
  exact ⟨v, rfl, by simpa [val] using hn, (Below.refl _ _).alloc (Nat.le_refl _) _⟩
open Go Go.RowKit Go.Proofs Lim
theorem info_u64 : (Tryz.prog.info? 23).map (fun i => (i.zero, i.size, i.bytes)) = some (some (.int .u64 0), 1, 8) := by kernel_rfl
def ClonePost (w : World) (xs : List Nat) (e : Ending) (w' : World) : Prop :=
  ∃ b cap, e = .returned (.slice (some ⟨b, 0, none⟩) xs.length cap) ∧ w.heap.size ≤ b ∧ Blk w' b xs ∧ xs.length ≤ cap ∧ cap ≤ maxLen ∧ Below w.heap.size w w'
theorem clone_any (a : Addr) (xs : List Nat) (cap : Nat) (w : World) (hbig : (xs.length : Int) ≤ 1099511627776) (hr : ∀ j, j < xs.length → w.cell? (a.add j) = some (u (xs[j]?.getD 0))) :
    Calls Tryz.prog 146 #[.slice (some a) xs.length cap] w (ClonePost w xs) := by
  obtain ⟨i0, hi, hz0, hz1, hz2⟩ := info_parts info_u64
  have q : ∀ (w : World) (a : Option Addr) (n c n' c' : Nat), (binOp .eql 110 (.slice a n c) (.slice none n' c')).run Tryz.prog w = .ok (.bool a.isNone) w := fun w a n c n' c' => Lib.run_eql_slice_nil w _ _ a n c n' c' Tryz.underlying110
  have A := Lib.hid hr
  clear hr
  go_enter Tryz.func146, Tryz.ntmps146
  go_wp2_with (at_builtin; refine wpList_append_own _ rfl _ _ 110 rfl w.heap.size 23 i0 (.int .u64 0) 1 8 Tryz.underlying110 hi hz0 hz1 hz2 rfl (by decide) _ _ _ rfl (World.ownsRow_made w #[] 0 (Nat.le_refl _) (Nat.zero_le _) rfl) a xs.length cap (xs.map u) rfl ?qc1 ?qc2 ?qc3 ?qc4 ?qc5 ?qc6 ?_)
  case qc1 => simp
  case qc2 =>
    intro j v hj
    have hjn : j < xs.length := by
      have := (List.getElem?_eq_some_iff.1 hj).1
      simpa using this
    refine Lib.cell?_alloc_some _ ?_
    rw [A.out j hjn]
    rw [List.getElem?_map, List.getElem?_eq_getElem hjn] at hj
    rw [List.getElem?_eq_getElem hjn]
    exact hj
  case qc3 => intro v hv; obtain ⟨x, _, rfl⟩ := List.mem_map.1 hv; rfl
  case qc4 => unfold maxLen; omega
  case qc5 => omega
  case qc6 => simp
  intro v' w1 hown hgrow hnil
  go_wp2
  go_ret
  obtain ⟨b, cap', rfl, hb, hB, hl, h1, h2⟩ := Blk.of_owned (xs := xs) (by simpa using hown) hnil
  refine ⟨b, cap', rfl, hb, hB, by omega, h2, ?_⟩
  exact ((Below.refl _ w).alloc (Nat.le_refl _) _).grown hgrow (by simp) (by intro k hk; simp [Value.ownBlock] at hk; omega)
theorem clone_nil (n cap : Nat) (w : World) :
    Calls Tryz.prog 146 #[.slice none n cap] w fun e w' => e = .returned (.slice none 0 0) ∧ w = w' := by
  have q : ∀ (w : World) (a : Option Addr) (n c n' c' : Nat), (binOp .eql 110 (.slice a n c) (.slice none n' c')).run Tryz.prog w = .ok (.bool a.isNone) w := fun w a n c n' c' => Lib.run_eql_slice_nil w _ _ a n c n' c' Tryz.underlying110
  go_enter Tryz.func146, Tryz.ntmps146
  go_wp2
  go_ret
  exact ⟨rfl, rfl⟩
open Go Go.RowKit Go.Proofs Lim
theorem one_of_len {xs : List Nat} (ht : Trim xs) (hv : val xs = 1) : xs = [1] := by
  have hl := IsNat.len (k := 1) ht hv (by decide)
  rcases xs with _ | ⟨x, _ | ⟨y, xs⟩⟩
  · simp [val] at hv
  · simp [val] at hv; rw [hv]
  · simp at hl
theorem isOne_any (v : Value) (n : Nat) (w : World) (h : IsNat w v n) :
    Calls Tryz.prog 141 #[v] w (fun e w' => e = .returned (.bool (decide (n = 1))) ∧ w = w') := by
  obtain ⟨xs, ⟨⟨xa, xc, rfl, h1, h2, hr⟩, ok⟩, ht, rfl⟩ := h
  unfold maxLen at h2
  by_cases hl : xs.length = 1
  · obtain ⟨x, rfl⟩ : ∃ x, xs = [x] := by
      rcases xs with _ | ⟨x, _ | ⟨z, xs⟩⟩
      · simp at hl
      · exact ⟨x, rfl⟩
      · simp at hl
    obtain ⟨b, o, rfl, row⟩ := hr (by simp)
    have cx : w.cell? ⟨b, o, none⟩ = some (u x) := row 0 (by simp)
    have hv : val [x] = x := by simp [val]
    rw [hv]
    clear hv row hr ok ht hl
    simp only [List.length_singleton] at *
    have hb : (((x : Nat) : Int) == 1) = decide (x = 1) := by rw [Bool.eq_iff_iff]; simp; omega
    go_enter Tryz.func141, Tryz.ntmps141
    go_wp2_with fail
    go_ret
    exact ⟨rfl, rfl⟩
  · have hb : (((xs.length : Nat) : Int) == 1) = false := by rw [beq_eq_false_iff_ne]; omega
    have hn : decide (val xs = 1) = false := by
      rw [decide_eq_false_iff_not]
      intro e
      have := one_of_len ht e
      subst this
      exact hl rfl
    rw [hn]
    clear hr ok ht hl hn
    go_enter Tryz.func141, Tryz.ntmps141
    go_wp2_with fail
    go_ret
    exact ⟨rfl, rfl⟩
theorem isOne_yes (v : Value) (n : Nat) (w : World) (h : IsNat w v n) (hn : n = 1) :
    Calls Tryz.prog 141 #[v] w (fun e w' => e = .returned (.bool true) ∧ w = w') := by
  have := isOne_any v n w h
  rwa [decide_eq_true hn] at this
theorem isOne_no (v : Value) (n : Nat) (w : World) (h : IsNat w v n) (hn : ¬ n = 1) :
    Calls Tryz.prog 141 #[v] w (fun e w' => e = .returned (.bool false) ∧ w = w') := by
  have := isOne_any v n w h
  rwa [decide_eq_false hn] at this
open Go Go.RowKit Go.Proofs Lim
theorem made_cells (n : Nat) : (madeCells #[Value.int .u64 0] n).toList = (List.replicate n 0).map u := by
  have h : (fun x => (#[Value.int .u64 0] : Array Value)[x % 1]!) = fun _ => u 0 := by funext x; simp [Nat.mod_one]
  show ((Array.range n).map (fun x => (#[Value.int .u64 0] : Array Value)[x % 1]!)).toList = _
  rw [h]
  simp [List.map_const']
theorem made_blk {w w1 : World} {n : Nat} (hown : w1.ownsRow w.heap.size 23 1 (.slice (some ⟨w.heap.size, 0, none⟩) n n) n (madeCells #[Value.int .u64 0] n).toList)
    (hgrow : w.grownBy w1 none) : Blk w1 w.heap.size (List.replicate n 0) ∧ Below w.heap.size w w1 := by
  rw [made_cells] at hown
  obtain ⟨b, cap, hv, hb, hB, hl, h1, h2⟩ := Blk.of_owned hown (by simp)
  injection hv with hv1 hv2 hv3
  injection hv1 with hv1
  injection hv1 with hv1
  subst hv1
  exact ⟨hB, (Below.refl _ w).grown hgrow (Nat.le_refl _) (by intro k hk; cases hk)⟩
theorem size_u64 : (Tryz.prog.info? 23).map (·.size) = some 1 := by kernel_rfl
theorem splice_low (xs : List Nat) (r : Nat) (T : List Value) : splice ((List.replicate (xs.length + r) 0).map u ++ T) 0 (xs.map u) = (xs ++ List.replicate r 0).map u ++ T := by
  simp only [splice, List.take_zero, List.nil_append, Nat.zero_add, List.length_map, List.map_append, List.append_assoc, List.map_replicate]
  rw [List.drop_append_of_le_length (by simp)]
  simp
theorem splice_low' (xs : List Nat) (T : List Value) : splice (List.replicate (xs.length + 1) (u 0) ++ T) 0 (xs.map u) = (xs ++ [0]).map u ++ T := by
  have := splice_low xs 1 T
  rw [List.map_replicate] at this
  exact this
theorem rows_of {w : World} {xa : Option Addr} {xs : List Nat} (h : 0 < xs.length → ∃ b off, xa = some ⟨b, off, none⟩ ∧ Row w b off xs) {w1 : World} {N : Nat} (hb : Below N w w1) (hN : w.heap.size ≤ N) :
    0 < (xs.map u).length → ∃ ad, xa = some ad ∧ ∀ j v, (xs.map u)[j]? = some v → w1.cell? (ad.add j) = some v := by
  intro hp
  rw [List.length_map] at hp
  obtain ⟨b, off, rfl, hr⟩ := h hp
  refine ⟨_, rfl, fun j v hv => ?_⟩
  have hj : j < xs.length := by have := (List.getElem?_eq_some_iff.1 hv).1; simpa using this
  rw [Addr.add_lit]
  rw [(hr.below hb (Nat.lt_of_lt_of_le (hr.lt hp) hN)) j hj]
  rw [List.getElem?_map, List.getElem?_eq_getElem hj] at hv
  rw [List.getElem?_eq_getElem hj]
  exact hv
theorem rows_ne {w : World} {xa : Option Addr} {xs : List Nat} (h : 0 < xs.length → ∃ b off, xa = some ⟨b, off, none⟩ ∧ Row w b off xs) {w1 : World} {N : Nat} (hb : Below N w w1) (hN : w.heap.size ≤ N) :
    0 < xs.length → ∃ b off, xa = some ⟨b, off, none⟩ ∧ b ≠ w.heap.size ∧ Row w1 b off xs := by
  intro hp
  obtain ⟨b, off, rfl, hr⟩ := h hp
  have := hr.lt hp
  exact ⟨b, off, rfl, by omega, hr.below hb (by omega)⟩
theorem two_le_B : 2 ≤ B := by decide
theorem added_val0 {xs ys L' : List Nat} {c : Nat} (h : Added (xs ++ [0]) L' 0 (xs.length + 1) (val ys) c) :
    val L' + B ^ xs.length * B * c = val xs + val ys := by
  have h1 := h.sum
  have e : val (xs ++ [0]) = val xs := by rw [val_append, val_cons, val_nil]; simp
  rw [Nat.zero_add, Nat.pow_zero, Nat.one_mul, e, Nat.pow_succ] at h1
  exact h1
theorem no_carry (P Q V X Y c : Nat) (Bs : Nat) (h1 : V + P * Bs * c = X + Y) (hX : X < P) (hY : Y < Q) (h4 : Q ≤ P) (h2 : 2 ≤ Bs) : V = X + Y := by
  rcases Nat.eq_zero_or_pos c with h0 | h0
  · subst h0; simpa using h1
  · have h5 : P * 2 ≤ P * Bs := Nat.mul_le_mul_left _ h2
    have h6 : P * Bs * 1 ≤ P * Bs * c := Nat.mul_le_mul_left _ h0
    omega
theorem added_val {xs ys L' : List Nat} {c : Nat} (h : Added (xs ++ [0]) L' 0 (xs.length + 1) (val ys) c) (ok1 : Ok xs) (ok2 : Ok ys) (hl : ys.length ≤ xs.length) :
    val L' = val xs + val ys :=
  no_carry _ _ _ _ _ _ _ (added_val0 h) (val_lt ok1) (val_lt ok2) (Nat.pow_le_pow_right B_pos hl) two_le_B
theorem plus_any (v1 v2 : Value) (m n k : Nat) (w : World) (h1 : IsNat w v1 m) (h2 : IsNat w v2 n) (hm : m < B ^ k) (hn : n < B ^ k) (hk : (k : Int) ≤ 1073741824) :
    Calls Tryz.prog 118 #[v1, v2] w (NatNew w (m + n)) := by
  obtain ⟨xs, s1, t1, e1⟩ := h1
  obtain ⟨ys, s2, t2, e2⟩ := h2
  have lx := IsNat.len t1 e1 hm
  have ly := IsNat.len t2 e2 hn
  obtain ⟨⟨xa, xc, rfl, hc1, hc2, hr1⟩, ok1⟩ := s1
  obtain ⟨⟨ya, yc, rfl, hd1, hd2, hr2⟩, ok2⟩ := s2
  obtain ⟨i0, hi, hz0, hz1, hz2⟩ := info_parts info_u64
  unfold maxLen at hc2 hd2
  by_cases hl : xs.length < ys.length
  · have HR2 := Lib.hid hr2
    have HR1 := Lib.hid hr1
    have HO2 := Lib.hid ok2
    have HO1 := Lib.hid ok1
    have HE2 := Lib.hid e2
    have HE1 := Lib.hid e1
    clear hr2 hr1 ok2 ok1 e2 e1 t1 t2 hm hn
    go_enter Tryz.func118, Tryz.ntmps118
    go_wp2_with (at_make; refine wpList_make_full _ rfl _ _ 109 rfl w.heap.size 23 i0 (.int .u64 0) 1 Tryz.underlying109 hi hz0 hz1 _ _ _ _ (ys.length + 1) rfl rfl (by omega) (by omega) ?qd2 ?qd3 ?qd4 ?_)
    case qd2 => rw [hz2]; omega
    case qd3 => unfold maxLen; omega
    case qd4 => exact Nat.le_refl _
    intro w1 hown hgrow
    obtain ⟨hB1, hbel⟩ := made_blk hown hgrow
    clear hown hgrow
    obtain ⟨T, hT⟩ := hB1
    have HT := Lib.hid hT
    have HBel := Lib.hid hbel
    clear hT hbel
    go_wp2_with (with_reducible refine wpList_copy_splice rfl (.tmp 17) (.tmp 18) 109 110 rfl 23 Tryz.underlying109 size_u64 _ _ _ _ _ _ rfl rfl w.heap.size 0 _ _ HT.out (ys.map u) ?qe1 ?qe2 ?qe3 ?qe4 w.heap.size w HBel.out (Nat.le_refl _) ?_)
    case qe1 => simp
    case qe2 => simpa using rows_of HR2.out HBel.out (Nat.le_refl _)
    case qe3 => simp; omega
    case qe4 => intro v hv; obtain ⟨x, _, rfl⟩ := List.mem_map.1 hv; rfl
    intro w2 hT2 hbel2
    have hB2 : Blk w2 w.heap.size (ys ++ [0]) := ⟨T, by have := hT2.out; rw [this, splice_low' ys T]⟩
    clear hT2 HT HBel
    have HB2 := Lib.hid hB2
    have HBel2 := Lib.hid hbel2
    clear hB2 hbel2
    go_wp2_with fail
    refine (addMultiple_one w.heap.size 0 (ys.length + 1) _ _ (ys ++ [0]) xs xa w2 HB2.out (by simp) (by omega) (by omega) (HO2.out.append (Ok.nil.cons B_pos)) HO1.out (rows_ne HR1.out HBel2.out (Nat.le_refl _))).mono ?_
    rintro e w3 ⟨rfl, hO3, c, L', hB3, hA⟩
    have hv := added_val hA HO2.out HO1.out (by omega)
    have hlen : L'.length = ys.length + 1 := by rw [hA.len]; simp
    have hs := Sl.of_blk hB3 hA.ok 0 (ys.length + 1) (ys.length + 1) (by omega) (Nat.le_refl _) (by unfold maxLen; omega)
    rw [List.drop_zero, ← hlen, List.take_length, hlen] at hs
    have hb3 : Below w.heap.size w w3 := HBel2.out.trans (hO3.below (Nat.le_refl _))
    have HS := Lib.hid hs
    have HB3 := Lib.hid hb3
    have HV := Lib.hid hv
    have HLen := Lib.hid hlen
    clear hs hb3 hv hlen hA hB3 hO3
    go_wp2_with fail
    refine (trim_any L' _ _ HS.out (by rw [HLen.out]; omega)).mono ?_
    rintro e w4 ⟨v, rfl, hnat, rfl⟩
    have HN := Lib.hid hnat
    clear hnat
    go_wp2_with fail
    go_ret
    refine ⟨v, rfl, ?_, HB3.out⟩
    have := HN.out
    rw [HV.out, HE2.out, HE1.out, Nat.add_comm] at this
    exact this
  · have HR1 := Lib.hid hr1
    have HR2 := Lib.hid hr2
    have HO1 := Lib.hid ok1
    have HO2 := Lib.hid ok2
    have HE1 := Lib.hid e1
    have HE2 := Lib.hid e2
    clear hr1 hr2 ok1 ok2 e1 e2 t1 t2 hm hn
    go_enter Tryz.func118, Tryz.ntmps118
    go_wp2_with (at_make; refine wpList_make_full _ rfl _ _ 109 rfl w.heap.size 23 i0 (.int .u64 0) 1 Tryz.underlying109 hi hz0 hz1 _ _ _ _ (xs.length + 1) rfl rfl (by omega) (by omega) ?qb2 ?qb3 ?qb4 ?_)
    case qb2 => rw [hz2]; omega
    case qb3 => unfold maxLen; omega
    case qb4 => exact Nat.le_refl _
    intro w1 hown hgrow
    obtain ⟨hB1, hbel⟩ := made_blk hown hgrow
    clear hown hgrow
    obtain ⟨T, hT⟩ := hB1
    have HT := Lib.hid hT
    have HBel := Lib.hid hbel
    clear hT hbel
    go_wp2_with (with_reducible refine wpList_copy_splice rfl (.tmp 17) (.tmp 18) 109 110 rfl 23 Tryz.underlying109 size_u64 _ _ _ _ _ _ rfl rfl w.heap.size 0 _ _ HT.out (xs.map u) ?qc1 ?qc2 ?qc3 ?qc4 w.heap.size w HBel.out (Nat.le_refl _) ?_)
    case qc1 => simp
    case qc2 => simpa using rows_of HR1.out HBel.out (Nat.le_refl _)
    case qc3 => simp; omega
    case qc4 => intro v hv; obtain ⟨x, _, rfl⟩ := List.mem_map.1 hv; rfl
    intro w2 hT2 hbel2
    have hB2 : Blk w2 w.heap.size (xs ++ [0]) := ⟨T, by have := hT2.out; rw [this, splice_low' xs T]⟩
    clear hT2 HT HBel
    have HB2 := Lib.hid hB2
    have HBel2 := Lib.hid hbel2
    clear hB2 hbel2
    go_wp2_with fail
    refine (addMultiple_one w.heap.size 0 (xs.length + 1) _ _ (xs ++ [0]) ys ya w2 HB2.out (by simp) (by omega) (by omega) (HO1.out.append (Ok.nil.cons B_pos)) HO2.out (rows_ne HR2.out HBel2.out (Nat.le_refl _))).mono ?_
    rintro e w3 ⟨rfl, hO3, c, L', hB3, hA⟩
    have hv := added_val hA HO1.out HO2.out (by omega)
    have hlen : L'.length = xs.length + 1 := by rw [hA.len]; simp
    have hs := Sl.of_blk hB3 hA.ok 0 (xs.length + 1) (xs.length + 1) (by omega) (Nat.le_refl _) (by unfold maxLen; omega)
    rw [List.drop_zero, ← hlen, List.take_length, hlen] at hs
    have hb3 : Below w.heap.size w w3 := HBel2.out.trans (hO3.below (Nat.le_refl _))
    have HS := Lib.hid hs
    have HB3 := Lib.hid hb3
    have HV := Lib.hid hv
    have HLen := Lib.hid hlen
    clear hs hb3 hv hlen hA hB3 hO3
    go_wp2_with fail
    refine (trim_any L' _ _ HS.out (by rw [HLen.out]; omega)).mono ?_
    rintro e w4 ⟨v, rfl, hnat, rfl⟩
    have HN := Lib.hid hnat
    clear hnat
    go_wp2_with fail
    go_ret
    refine ⟨v, rfl, ?_, HB3.out⟩
    have := HN.out
    rw [HV.out, HE1.out, HE2.out] at this
    exact this
theorem times_step {xs ys L L' : List Nat} {k c : Nat} (hv : val L = val (xs.take k) * val ys) (hk : k < xs.length) (hL : L.length = xs.length + ys.length)
    (h : Added L L' k (xs.length + ys.length - k) (xs[k]?.getD 0 * val ys) c) (ok1 : Ok xs) (ok2 : Ok ys) : val L' = val (xs.take (k + 1)) * val ys := by
  have h1 := h.sum
  have e : val (xs.take (k + 1)) * val ys = val L + B ^ k * (xs[k]?.getD 0 * val ys) := by
    rw [val_take_succ xs k hk, Nat.add_mul, hv, Nat.mul_assoc]
  rw [← e] at h1
  have hlt : val (xs.take (k + 1)) * val ys < B ^ (xs.length + ys.length) := by
    have h2 := val_lt (ok1.take (k + 1))
    rw [List.length_take, Nat.min_eq_left (by omega)] at h2
    have h3 := val_lt ok2
    have h4 : val (xs.take (k + 1)) * val ys < B ^ (k + 1) * B ^ ys.length := Nat.mul_lt_mul'' h2 h3
    have h5 : B ^ (k + 1) * B ^ ys.length ≤ B ^ (xs.length + ys.length) := by
      rw [← Nat.pow_add]; exact Nat.pow_le_pow_right B_pos (by omega)
    omega
  rw [show k + (xs.length + ys.length - k) = xs.length + ys.length from by omega] at h1
  rcases Nat.eq_zero_or_pos c with h0 | h0
  · subst h0; simpa using h1
  · have : B ^ (xs.length + ys.length) * 1 ≤ B ^ (xs.length + ys.length) * c := Nat.mul_le_mul_left _ h0
    omega
set_option maxRecDepth 100000 in
theorem times_long (v1 v2 : Value) (m n k : Nat) (w : World) (h1 : IsNat w v1 m) (h2 : IsNat w v2 n) (hm : m < B ^ k) (hn : n < B ^ k) (hk : (k : Int) ≤ 1073741824) (o1 : ¬ m = 1) (o2 : ¬ n = 1) :
    Calls Tryz.prog 117 #[v1, v2] w (NatNew w (m * n)) := by
  have HI1 := Lib.hid (isOne_no v1 m w h1 o1)
  have HI2 := Lib.hid (isOne_no v2 n w h2 o2)
  clear o1 o2
  obtain ⟨xs, s1, t1, e1⟩ := h1
  obtain ⟨ys, s2, t2, e2⟩ := h2
  have lx := IsNat.len t1 e1 hm
  have ly := IsNat.len t2 e2 hn
  obtain ⟨⟨xa, xc, rfl, hc1, hc2, hr1⟩, ok1⟩ := s1
  obtain ⟨⟨ya, yc, rfl, hd1, hd2, hr2⟩, ok2⟩ := s2
  obtain ⟨i0, hi, hz0, hz1, hz2⟩ := info_parts info_u64
  unfold maxLen at hc2 hd2
  have HR1 := Lib.hid hr1
  have HR2 := Lib.hid hr2
  have HO1 := Lib.hid ok1
  have HO2 := Lib.hid ok2
  have HE1 := Lib.hid e1
  have HE2 := Lib.hid e2
  clear hr1 hr2 ok1 ok2 e1 e2 t1 t2 hm hn
  obtain ⟨N, hN⟩ : ∃ N, N = xs.length + ys.length := ⟨_, rfl⟩
  have HN := Lib.hid hN
  have hNmax : (N : Int) ≤ 2147483648 := by omega
  clear hN
  go_enter Tryz.func117, Tryz.ntmps117
  go_wp2_with fail
  refine HI1.out.mono ?_
  rintro e w1 ⟨rfl, rfl⟩
  go_wp2_with fail
  refine HI2.out.mono ?_
  rintro e w1 ⟨rfl, rfl⟩
  clear HI1 HI2
  go_wp2_with (at_make; refine wpList_make_full _ rfl _ _ 109 rfl w.heap.size 23 i0 (.int .u64 0) 1 Tryz.underlying109 hi hz0 hz1 _ _ _ _ N rfl rfl (by have := HN.out; omega) (by have := HN.out; omega) ?qb2 ?qb3 ?qb4 ?_)
  case qb2 => rw [hz2]; omega
  case qb3 => unfold maxLen; omega
  case qb4 => exact Nat.le_refl _
  intro w1 hown hgrow
  obtain ⟨hB1, hbel⟩ := made_blk hown hgrow
  clear hown hgrow
  have HB1 := Lib.hid hB1
  have HBel := Lib.hid hbel
  clear hB1 hbel
  go_wp2_with fail
  go_loopw [21] (fun i wr => ∃ k L, k ≤ xs.length ∧ i = .int .i64 (k : Int) ∧ Hid (Blk wr w.heap.size L ∧ L.length = N ∧ Ok L ∧ val L = val (xs.take k) * val ys) ∧ Hid (Below w.heap.size w wr)) (fun i _ => xs.length - (intOf i).toNat)
  case atStart => exact ⟨0, _, Nat.zero_le _, rfl, ⟨HB1.out, by simp, Ok.replicate _, by rw [val_replicate]; simp [val]⟩, HBel.out⟩
  case round =>
    obtain ⟨k, L, hk, rfl, hL, hBe⟩ := hrel
    by_cases hlt : k < xs.length
    · obtain ⟨xb, xo, rfl, hxrow⟩ := HR1.out (by omega)
      have hxb := hxrow.lt (by omega)
      have hxc : wr.cell? ⟨xb, xo + k, none⟩ = some (u (xs[k]?.getD 0)) := (hBe.out.cell (p := ⟨xb, xo + k, none⟩) hxb).trans (hxrow k hlt)
      have hxl : xs[k]?.getD 0 < B := HO1.out.get k
      generalize hxg : xs[k]?.getD 0 = x at *
      have HX := Lib.hid hxg
      clear hxg hxrow hi hz0 hz1 hz2
      have hkN : (k : Int) < (N : Int) := by have := HN.out; omega
      have hkN' : (k : Int) ≤ (N : Int) := by omega
      have hk0 : (0 : Int) ≤ (k : Int) := by omega
      have hNk : ¬ N = k := by omega
      go_wp2_with fail
      go_region_held3 (fun w' => w'.cell? ⟨xb, xo + k, none⟩ = some (u x)) (go_keep) ((go_at_call 142; refine (addMultiple_any w.heap.size k (N - k) _ yc L ys ya x wr.drew (show Blk wr.drew w.heap.size L from hL.out.1) (by have := hL.out.2.1; omega) (by have := HN.out; omega) (by omega) hxl hL.out.2.2.1 HO2.out (rows_ne HR2.out hBe.out.drew (Nat.le_refl _))).mono ?_; rintro e w' ⟨rfl, hO, c, L', hB', hA⟩; have hxc' := (hO.cell (p := ⟨xb, xo + k, none⟩) (Nat.ne_of_lt hxb)).trans hxc))
      have HB' := Lib.hid hB'
      have HA := Lib.hid hA
      have HO := Lib.hid hO
      clear hB' hA hO hxc' hNk
      go_wp2_with fail
      go_roundw
      case rel =>
        refine ⟨k + 1, L', by omega, by go_num, ⟨HB'.out, by rw [HA.out.len, hL.out.2.1], HA.out.ok, ?_⟩, hBe.out.trans (Below.trans ((Below.refl _ wr).drew) (HO.out.below (Nat.le_refl _)))⟩
        have hN := HN.out
        have hA2 := HA.out
        rw [← HX.out, hN] at hA2
        exact times_step hL.out.2.2.2 hlt (by rw [hL.out.2.1, hN]) hA2 HO1.out HO2.out
      case measure => simp [intOf]; omega
    · obtain rfl : k = xs.length := by omega
      obtain ⟨hb, hl, ho, hv⟩ := hL.out
      have hs := Sl.of_blk hb ho 0 N N (by omega) (Nat.le_refl _) (by unfold maxLen; omega)
      rw [List.drop_zero, ← hl, List.take_length, hl] at hs
      rw [List.take_length, HE1.out, HE2.out] at hv
      have HS := Lib.hid hs
      have HV := Lib.hid hv
      have HLen := Lib.hid hl
      clear hs hv hl hb ho
      go_wp2_with fail
      refine (trim_any L _ _ HS.out (by rw [HLen.out]; omega)).mono ?_
      rintro e w4 ⟨v, rfl, hnat, rfl⟩
      have HN2 := Lib.hid hnat
      clear hnat
      go_wp2_with fail
      go_ret
      refine ⟨v, rfl, ?_, hBe.out⟩
      have := HN2.out
      rw [HV.out] at this
      exact this
theorem times_any (v1 v2 : Value) (m n k : Nat) (w : World) (h1 : IsNat w v1 m) (h2 : IsNat w v2 n) (hm : m < B ^ k) (hn : n < B ^ k) (hk : (k : Int) ≤ 1073741824) :
    Calls Tryz.prog 117 #[v1, v2] w (NatNew w (m * n)) := by
  by_cases o1 : m = 1
  · have HI1 := Lib.hid (isOne_yes v1 m w h1 o1)
    have H2 := Lib.hid h2
    subst o1
    obtain ⟨xs, ⟨⟨xa, xc, rfl, _⟩, _⟩, _⟩ := h1
    obtain ⟨ys, ⟨⟨ya, yc, rfl, _⟩, _⟩, _⟩ := h2
    clear hm hn hk
    go_enter Tryz.func117, Tryz.ntmps117
    go_wp2_with fail
    refine HI1.out.mono ?_
    rintro e w1 ⟨rfl, rfl⟩
    go_wp2_with fail
    go_ret
    refine ⟨_, rfl, ?_, Below.refl _ _⟩
    rw [Nat.one_mul]
    exact H2.out
  · by_cases o2 : n = 1
    · have HI1 := Lib.hid (isOne_no v1 m w h1 o1)
      have HI2 := Lib.hid (isOne_yes v2 n w h2 o2)
      have H1 := Lib.hid h1
      subst o2
      obtain ⟨xs, ⟨⟨xa, xc, rfl, _⟩, _⟩, _⟩ := h1
      obtain ⟨ys, ⟨⟨ya, yc, rfl, _⟩, _⟩, _⟩ := h2
      clear hm hn hk o1
      go_enter Tryz.func117, Tryz.ntmps117
      go_wp2_with fail
      refine HI1.out.mono ?_
      rintro e w1 ⟨rfl, rfl⟩
      go_wp2_with fail
      refine HI2.out.mono ?_
      rintro e w1 ⟨rfl, rfl⟩
      go_wp2_with fail
      go_ret
      refine ⟨_, rfl, ?_, Below.refl _ _⟩
      rw [Nat.mul_one]
      exact H1.out
    · exact times_long v1 v2 m n k w h1 h2 hm hn hk o1 o2
theorem takeMultiple_nil (ao ya : Option Addr) (c yc : Nat) (w : World) :
    Calls Tryz.prog 171 #[.slice ao 0 c, .slice ya 0 yc, .int .u64 1] w fun e w' => e = .returned (.int .u64 0) ∧ w = w' := by
  go_enter Tryz.func171, Tryz.ntmps171
  go_wp2_with fail
  refine wp_loop_rounds 1 ?_
  rw [rounds_succ]
  go_wp2_with fail
  refine wp_loop_rounds 1 ?_
  rw [rounds_succ]
  go_wp2_with fail
  go_ret
  exact ⟨rfl, rfl⟩
open Go Go.RowKit Go.Proofs Lim
theorem no_borrow (P V X Y c : Nat) (h1 : V + Y = X + P * c) (hV : V < P) (h : Y ≤ X) : V = X - Y := by
  rcases Nat.eq_zero_or_pos c with h0 | h0
  · subst h0; omega
  · have h6 : P * 1 ≤ P * c := Nat.mul_le_mul_left _ h0
    omega
theorem taken_val {L L' : List Nat} {x c n : Nat} (h : Taken L L' 0 n x c) (hn : L.length = n) (hle : x ≤ val L) : val L' = val L - x := by
  have h1 := h.sum
  rw [Nat.zero_add, Nat.pow_zero, Nat.one_mul] at h1
  have h2 := val_lt h.ok
  rw [h.len, hn] at h2
  exact no_borrow _ _ _ _ _ h1 h2 hle
theorem rows_at {w : World} {a : Addr} {xs : List Nat} (h : 0 < xs.length → ∃ b off, some a = some ⟨b, off, none⟩ ∧ Row w b off xs) : ∀ j, j < xs.length → w.cell? (a.add j) = some (u (xs[j]?.getD 0)) := by
  intro j hj
  obtain ⟨b, off, ha, hr⟩ := h (by omega)
  injection ha with ha
  subst ha
  rw [Addr.add_lit]
  exact hr j hj
theorem rows_ne' {w : World} {xa : Option Addr} {xs : List Nat} (h : 0 < xs.length → ∃ b off, xa = some ⟨b, off, none⟩ ∧ Row w b off xs) {w1 : World} {N c : Nat} (hb : Below N w w1) (hN : w.heap.size ≤ N) (hc : w.heap.size ≤ c) :
    0 < xs.length → ∃ b off, xa = some ⟨b, off, none⟩ ∧ b ≠ c ∧ Row w1 b off xs := by
  intro hp
  obtain ⟨b, off, rfl, hr⟩ := h hp
  have := hr.lt hp
  exact ⟨b, off, rfl, by omega, hr.below hb (by omega)⟩
theorem minus_any (v1 v2 : Value) (m n k : Nat) (w : World) (h1 : IsNat w v1 m) (h2 : IsNat w v2 n) (hm : m < B ^ k) (hnm : n ≤ m) (hk : (k : Int) ≤ 1073741824) :
    Calls Tryz.prog 150 #[v1, v2] w (NatNew w (m - n)) := by
  obtain ⟨xs, s1, t1, e1⟩ := h1
  obtain ⟨ys, s2, t2, e2⟩ := h2
  have lx := IsNat.len t1 e1 hm
  have ly : ys.length ≤ xs.length := length_le_of_val_le t2 s1.ok (by omega)
  obtain ⟨⟨xa, xc, rfl, hc1, hc2, hr1⟩, ok1⟩ := s1
  obtain ⟨⟨ya, yc, rfl, hd1, hd2, hr2⟩, ok2⟩ := s2
  unfold maxLen at hc2 hd2
  rcases xa with _ | a
  · have hx0 : xs = [] := by
      rcases xs with _ | ⟨x, xs⟩
      · rfl
      · obtain ⟨b, off, h, _⟩ := hr1 (by simp)
        cases h
    subst hx0
    have hy0 : ys = [] := by simpa using ly
    subst hy0
    simp only [val] at e1 e2
    subst e1
    subst e2
    clear hr1 hr2 ok1 ok2 t1 t2 hm hnm lx ly
    go_enter Tryz.func150, Tryz.ntmps150
    go_wp2_with fail
    refine (clone_nil _ _ _).mono ?_
    rintro e w' ⟨rfl, rfl⟩
    go_wp2_with fail
    refine (takeMultiple_nil none ya 0 yc w).mono ?_
    rintro e w' ⟨rfl, rfl⟩
    go_wp2_with fail
    refine (trim_any [] _ _ (Sl.nil w) (by simp)).mono ?_
    rintro e w' ⟨v, rfl, hnat, rfl⟩
    have HN := Lib.hid hnat
    clear hnat
    go_wp2_with fail
    go_ret
    exact ⟨v, rfl, HN.out, Below.refl _ _⟩
  · have HR1 := Lib.hid (rows_at hr1)
    have HR2 := Lib.hid hr2
    have HO1 := Lib.hid ok1
    have HO2 := Lib.hid ok2
    have HE1 := Lib.hid e1
    have HE2 := Lib.hid e2
    clear hr1 hr2 ok1 ok2 e1 e2 t1 t2 hm
    go_enter Tryz.func150, Tryz.ntmps150
    go_wp2_with fail
    refine (clone_any a xs xc w (by omega) HR1.out).mono ?_
    rintro e w1 ⟨b, cap, rfl, hb, hB1, hcap1, hcap2, hbel⟩
    have HB1 := Lib.hid hB1
    have HBel := Lib.hid hbel
    clear hB1 hbel
    go_wp2_with fail
    refine (takeMultiple_one b 0 xs.length cap yc xs ys ya w1 HB1.out (by omega) ly (by omega) HO1.out HO2.out (rows_ne' HR2.out HBel.out (Nat.le_refl _) hb)).mono ?_
    rintro e w3 ⟨c, L', hc, rfl, hO3, hB3, hA⟩
    have hv := taken_val hA rfl (by rw [HE1.out, HE2.out]; exact hnm)
    have hlen : L'.length = xs.length := hA.len
    have hs := Sl.of_blk hB3 hA.ok 0 xs.length cap (by omega) hcap1 hcap2
    rw [List.drop_zero, ← hlen, List.take_length, hlen] at hs
    have hb3 : Below w.heap.size w w3 := HBel.out.trans (hO3.below hb)
    rw [HE1.out, HE2.out] at hv
    have HS := Lib.hid hs
    have HB3 := Lib.hid hb3
    have HV := Lib.hid hv
    have HLen := Lib.hid hlen
    clear hs hb3 hv hlen hA hB3 hO3
    go_wp2_with fail
    refine (trim_any L' _ _ HS.out (by rw [HLen.out]; omega)).mono ?_
    rintro e w4 ⟨v, rfl, hnat, rfl⟩
    have HN := Lib.hid hnat
    clear hnat
    go_wp2_with fail
    go_ret
    refine ⟨v, rfl, ?_, HB3.out⟩
    have := HN.out
    rw [HV.out] at this
    exact this
open Go Go.RowKit Go.Proofs Lim
theorem diff_val (P f m g n V1 V2 c c2 : Nat) (h1 : V1 + P * c = f * m) (h2 : V2 + g * n = V1 + P * c2) (hle : g * n ≤ f * m) (hD : f * m - g * n < P) (hV : V2 < P) : V2 = f * m - g * n := by
  have h3 : V2 + P * c = (f * m - g * n) + P * c2 := by omega
  exact (val_eq_of_lt h3 hV hD).1
theorem difference_any (v1 v2 : Value) (f g m n k : Nat) (w : World) (h1 : IsNat w v1 m) (h2 : IsNat w v2 n) (hf : f < B) (hg : g < B) (hle : g * n ≤ f * m)
    (hD : f * m - g * n ≤ m ∨ f * m - g * n ≤ n) (hm : m < B ^ k) (hn : n < B ^ k) (hk : (k : Int) ≤ 1073741824) :
    Calls Tryz.prog 169 #[u f, v1, u g, v2] w (NatNew w (f * m - g * n)) := by
  obtain ⟨xs, s1, t1, rfl⟩ := h1
  obtain ⟨ys, s2, t2, rfl⟩ := h2
  have lx := IsNat.len t1 rfl hm
  have ly := IsNat.len t2 rfl hn
  obtain ⟨⟨xa, xc, rfl, hc1, hc2, hr1⟩, ok1⟩ := s1
  obtain ⟨⟨ya, yc, rfl, hd1, hd2, hr2⟩, ok2⟩ := s2
  unfold maxLen at hc2 hd2
  obtain ⟨N, hN⟩ : ∃ N, N = max xs.length ys.length := ⟨_, rfl⟩
  have hNx : xs.length ≤ N := by omega
  have hNy : ys.length ≤ N := by omega
  have hDN : f * val xs - g * val ys < B ^ N := by
    have h1 := val_lt ok1
    have h2 := val_lt ok2
    have h3 : B ^ xs.length ≤ B ^ N := Nat.pow_le_pow_right B_pos hNx
    have h4 : B ^ ys.length ≤ B ^ N := Nat.pow_le_pow_right B_pos hNy
    omega
  have hNmax : (N : Int) ≤ 1073741824 := by omega
  have HN := Lib.hid hN
  have HDN := Lib.hid hDN
  have HLE := Lib.hid hle
  have HR1 := Lib.hid hr1
  have HR2 := Lib.hid hr2
  have HO1 := Lib.hid ok1
  have HO2 := Lib.hid ok2
  clear hr1 hr2 ok1 ok2 t1 t2 hm hn hN hD hDN hle
  obtain ⟨i0, hi, hz0, hz1, hz2⟩ := info_parts info_u64
  go_enter Tryz.func169, Tryz.ntmps169
  go_wp2_with (at_make; refine wpList_make_full _ rfl _ _ 109 rfl w.heap.size 23 i0 (.int .u64 0) 1 Tryz.underlying109 hi hz0 hz1 _ _ _ _ N rfl rfl (by have := HN.out; omega) (by have := HN.out; omega) ?qb2 ?qb3 ?qb4 ?_)
  case qb2 => rw [hz2]; omega
  case qb3 => unfold maxLen; omega
  case qb4 => exact Nat.le_refl _
  intro w1 hown hgrow
  obtain ⟨hB1, hbel⟩ := made_blk hown hgrow
  clear hown hgrow hi hz0 hz1 hz2
  have HB1 := Lib.hid hB1
  have HBel := Lib.hid hbel
  clear hB1 hbel
  go_wp2_with fail
  refine (addMultiple_any w.heap.size 0 N _ _ (List.replicate N 0) xs xa f w1 HB1.out (by simp) hNx (by omega) hf (Ok.replicate _) HO1.out (rows_ne HR1.out HBel.out (Nat.le_refl _))).mono ?_
  rintro e w2 ⟨rfl, hO2, c, L1, hB2, hA1⟩
  have HB2 := Lib.hid hB2
  have HO2' := Lib.hid hO2
  have HA1 := Lib.hid hA1
  have HBel2 := Lib.hid (HBel.out.trans (hO2.below (Nat.le_refl _)))
  have hl1 : L1.length = N := by rw [hA1.len]; simp
  have HL1 := Lib.hid hl1
  clear hB2 hO2 hA1 hl1
  go_wp2_with fail
  refine (takeMultiple_any w.heap.size 0 N _ _ L1 ys ya g w2 HB2.out (by have := HL1.out; omega) hNy (by omega) hg HA1.out.ok HO2.out (rows_ne HR2.out HBel2.out (Nat.le_refl _))).mono ?_
  rintro e w3 ⟨c2, L2, hc2', rfl, hO3, hB3, hA2⟩
  have hl2 : L2.length = N := by rw [hA2.len, HL1.out]
  have hv : val L2 = f * val xs - g * val ys := by
    have s1 := HA1.out.sum
    have s2 := hA2.sum
    rw [val_replicate, Nat.pow_zero, Nat.one_mul, Nat.zero_add, Nat.zero_add] at s1
    rw [Nat.pow_zero, Nat.one_mul, Nat.zero_add] at s2
    have hV := val_lt hA2.ok
    rw [hl2] at hV
    exact diff_val _ _ _ _ _ _ _ _ _ s1 s2 HLE.out HDN.out hV
  have hs := Sl.of_blk hB3 hA2.ok 0 N N (by omega) (Nat.le_refl _) (by unfold maxLen; omega)
  rw [List.drop_zero, ← hl2, List.take_length, hl2] at hs
  have HS := Lib.hid hs
  have HV := Lib.hid hv
  have HL2 := Lib.hid hl2
  have HB3 := Lib.hid (HBel2.out.trans (hO3.below (Nat.le_refl _)))
  clear hs hv hl2 hB3 hO3 hA2
  go_wp2_with fail
  refine (trim_any L2 _ _ HS.out (by rw [HL2.out]; omega)).mono ?_
  rintro e w4 ⟨v, rfl, hnat, rfl⟩
  rw [HV.out] at hnat
  have HNat := Lib.hid hnat
  clear hnat
  go_wp2_with fail
  go_ret
  exact ⟨v, rfl, HNat.out, HB3.out⟩
end Go.Proofs.YtccabfblgjcboaaGreatDoor

namespace Go.Proofs.YtccabfblgjcboaaGreatDoor.Lim
structure Steps (x0 y0 xi yi a b c d : Nat) (odd : Bool) : Prop where
  lx : if odd then xi + a * x0 = b * y0 else xi + b * y0 = a * x0
  ly : if odd then yi + d * y0 = c * x0 else yi + c * x0 = d * y0
  hx : x0 = d * xi + b * yi
  hy : y0 = c * xi + a * yi
  det : if odd then b * c = a * d + 1 else a * d = b * c + 1
  cd : c ≤ d
  d1 : 1 ≤ d
  st : (a = 1 ∧ b = 0 ∧ c = 0 ∧ d = 1 ∧ yi ≤ xi) ∨ (a ≤ b ∧ 1 ≤ b ∧ 1 ≤ c ∧ d ≤ yi ∧ b + d ≤ xi - yi ∧ yi ≤ xi)
theorem Steps.start (x y : Nat) (h : y ≤ x) : Steps x y x y 1 0 0 1 false :=
  ⟨by simp, by simp, by simp, by simp, by simp, by omega, by omega, .inl ⟨rfl, rfl, rfl, rfl, h⟩⟩
theorem Steps.bd {x0 y0 xi yi a b c d : Nat} {odd : Bool} (h : Steps x0 y0 xi yi a b c d odd) (hy : 0 < yi) : b + xi / yi * d ≤ x0 ∧ a + xi / yi * c ≤ y0 := by
  have hq : xi / yi * yi ≤ xi := Nat.div_mul_le_self xi yi
  have h1 : d * (xi / yi * yi) ≤ d * xi := Nat.mul_le_mul_left _ hq
  have h2 : c * (xi / yi * yi) ≤ c * xi := Nat.mul_le_mul_left _ hq
  have e1 : (b + xi / yi * d) * yi = d * (xi / yi * yi) + b * yi := by grind
  have e2 : (a + xi / yi * c) * yi = c * (xi / yi * yi) + a * yi := by grind
  have h3 := h.hx
  have h4 := h.hy
  have h5 : (b + xi / yi * d) * 1 ≤ (b + xi / yi * d) * yi := Nat.mul_le_mul_left _ hy
  have h6 : (a + xi / yi * c) * 1 ≤ (a + xi / yi * c) * yi := Nat.mul_le_mul_left _ hy
  omega
theorem Steps.next {x0 y0 xi yi a b c d : Nat} {odd : Bool} (h : Steps x0 y0 xi yi a b c d odd) (hy : 0 < yi)
    (c1 : b + xi / yi * d ≤ xi % yi) (c2 : d + (b + xi / yi * d) ≤ yi - xi % yi) :
    Steps x0 y0 yi (xi % yi) c d (a + xi / yi * c) (b + xi / yi * d) (!odd) := by
  have hle : yi ≤ xi := by rcases h.st with h | h <;> omega
  have hq : 1 ≤ xi / yi := (Nat.le_div_iff_mul_le hy).2 (by omega)
  have hdm : xi = yi * (xi / yi) + xi % yi := (Nat.div_add_mod xi yi).symm
  have hlt : xi % yi < yi := Nat.mod_lt _ hy
  have hd1 := h.d1
  generalize hqq : xi / yi = q at *
  generalize hrr : xi % yi = r at *
  have hqd : 1 * d ≤ q * d := Nat.mul_le_mul_right _ hq
  have hqc : q * c ≤ q * d := Nat.mul_le_mul_left _ h.cd
  refine ⟨?_, ?_, ?_, ?_, ?_, ?_, by omega, .inr ⟨h.cd, hd1, ?_, c1, c2, by omega⟩⟩
  · have := h.ly
    cases odd <;> simpa using this
  · have h1 := h.ly
    have h2 := h.lx
    cases odd
    · simp only [Bool.not_false, if_true, Bool.false_eq_true, if_false] at h1 h2 ⊢
      subst hdm
      grind
    · simp only [Bool.not_true, if_true, Bool.false_eq_true, if_false] at h1 h2 ⊢
      subst hdm
      grind
  · have := h.hx; subst hdm; grind
  · have := h.hy; subst hdm; grind
  · have := h.det
    cases odd
    · simp only [Bool.not_false, if_true, Bool.false_eq_true, if_false] at this ⊢
      grind
    · simp only [Bool.not_true, if_true, Bool.false_eq_true, if_false] at this ⊢
      grind
  · rcases h.st with ⟨rfl, rfl, rfl, rfl, _⟩ | ⟨ha, _⟩
    · omega
    · omega
  · rcases h.st with ⟨rfl, rfl, rfl, rfl, _⟩ | ⟨_, _, hc, _⟩
    · omega
    · have : 1 * c ≤ q * c := Nat.mul_le_mul_right _ hq
      omega
theorem Steps.even {x0 y0 xi yi a b c d K x' y' : Nat} (h : Steps x0 y0 xi yi a b c d false) (hb : b ≠ 0) (hx' : x' < K) (hy' : y' < K) :
    ∃ X Y, X + b * (y0 * K + y') = a * (x0 * K + x') ∧ Y + c * (x0 * K + x') = d * (y0 * K + y') ∧ Y < X ∧
      x0 * K + x' = d * X + b * Y ∧ y0 * K + y' = c * X + a * Y ∧ 1 ≤ c ∧ 1 ≤ d := by
  have h1 := h.lx
  have h2 := h.ly
  have h3 := h.det
  have hcd := h.cd
  have hd1 := h.d1
  simp only [Bool.false_eq_true, if_false] at h1 h2 h3
  rcases h.st with ⟨_, rfl, _⟩ | ⟨hab, hb1, hc1, hdy, hbd, hyx⟩
  · exact absurd rfl hb
  have e1 : a * (x0 * K + x') = xi * K + b * y0 * K + a * x' := by rw [Nat.mul_add, ← Nat.mul_assoc, ← h1, Nat.add_mul]
  have e2 : b * (y0 * K + y') = b * y0 * K + b * y' := by rw [Nat.mul_add, ← Nat.mul_assoc]
  have e3 : d * (y0 * K + y') = yi * K + c * x0 * K + d * y' := by rw [Nat.mul_add, ← Nat.mul_assoc, ← h2, Nat.add_mul]
  have e4 : c * (x0 * K + x') = c * x0 * K + c * x' := by rw [Nat.mul_add, ← Nat.mul_assoc]
  have i1 : b * y' ≤ b * K := Nat.mul_le_mul_left _ (by omega)
  have i2 : c * x' ≤ c * K := Nat.mul_le_mul_left _ (by omega)
  have i3 : b * K ≤ xi * K := Nat.mul_le_mul_right _ (by omega)
  have i4 : c * K ≤ yi * K := Nat.mul_le_mul_right _ (by omega)
  have i5 : (yi + b + d) * K ≤ xi * K := Nat.mul_le_mul_right _ (by omega)
  have i6 : b * (y' + 1) ≤ b * K := Nat.mul_le_mul_left _ (by omega)
  have i7 : d * (y' + 1) ≤ d * K := Nat.mul_le_mul_left _ (by omega)
  rw [Nat.add_mul, Nat.add_mul] at i5
  rw [Nat.mul_add] at i6 i7
  have hX : a * (x0 * K + x') - b * (y0 * K + y') + b * (y0 * K + y') = a * (x0 * K + x') := by omega
  have hY : d * (y0 * K + y') - c * (x0 * K + x') + c * (x0 * K + x') = d * (y0 * K + y') := by omega
  refine ⟨_, _, hX, hY, by omega, ?_, ?_, hc1, hd1⟩
  · generalize x0 * K + x' = x at *
    generalize y0 * K + y' = y at *
    generalize a * x - b * y = X at *
    generalize d * y - c * x = Y at *
    have g1 : d * X + d * (b * y) = d * (a * x) := by rw [← Nat.mul_add, hX]
    have g2 : b * Y + b * (c * x) = b * (d * y) := by rw [← Nat.mul_add, hY]
    have g3 : d * (a * x) = b * (c * x) + x := by
      have : a * d * x = (b * c + 1) * x := by rw [h3]
      grind
    have g4 : d * (b * y) = b * (d * y) := by grind
    omega
  · generalize x0 * K + x' = x at *
    generalize y0 * K + y' = y at *
    generalize a * x - b * y = X at *
    generalize d * y - c * x = Y at *
    have g1 : c * X + c * (b * y) = c * (a * x) := by rw [← Nat.mul_add, hX]
    have g2 : a * Y + a * (c * x) = a * (d * y) := by rw [← Nat.mul_add, hY]
    have g3 : a * (d * y) = c * (b * y) + y := by
      have : a * d * y = (b * c + 1) * y := by rw [h3]
      grind
    have g4 : c * (a * x) = a * (c * x) := by grind
    omega
theorem Steps.odd {x0 y0 xi yi a b c d K x' y' : Nat} (h : Steps x0 y0 xi yi a b c d true) (hx' : x' < K) (hy' : y' < K) :
    ∃ X Y, X + a * (x0 * K + x') = b * (y0 * K + y') ∧ Y + d * (y0 * K + y') = c * (x0 * K + x') ∧ Y < X ∧
      x0 * K + x' = d * X + b * Y ∧ y0 * K + y' = c * X + a * Y ∧ 1 ≤ c ∧ 1 ≤ d := by
  have h1 := h.lx
  have h2 := h.ly
  have h3 := h.det
  have hcd := h.cd
  have hd1 := h.d1
  simp only [if_true] at h1 h2 h3
  rcases h.st with ⟨rfl, rfl, rfl, rfl, _⟩ | ⟨hab, hb1, hc1, hdy, hbd, hyx⟩
  · omega
  have e1 : b * (y0 * K + y') = xi * K + a * x0 * K + b * y' := by rw [Nat.mul_add, ← Nat.mul_assoc, ← h1, Nat.add_mul]
  have e2 : a * (x0 * K + x') = a * x0 * K + a * x' := by rw [Nat.mul_add, ← Nat.mul_assoc]
  have e3 : c * (x0 * K + x') = yi * K + d * y0 * K + c * x' := by rw [Nat.mul_add, ← Nat.mul_assoc, ← h2, Nat.add_mul]
  have e4 : d * (y0 * K + y') = d * y0 * K + d * y' := by rw [Nat.mul_add, ← Nat.mul_assoc]
  have i1 : a * x' ≤ a * K := Nat.mul_le_mul_left _ (by omega)
  have i2 : d * y' ≤ d * K := Nat.mul_le_mul_left _ (by omega)
  have i3 : a * K ≤ xi * K := Nat.mul_le_mul_right _ (by omega)
  have i4 : d * K ≤ yi * K := Nat.mul_le_mul_right _ (by omega)
  have i5 : (yi + b + d) * K ≤ xi * K := Nat.mul_le_mul_right _ (by omega)
  have i6 : a * K ≤ b * K := Nat.mul_le_mul_right _ hab
  have i7 : c * (x' + 1) ≤ c * K := Nat.mul_le_mul_left _ (by omega)
  have i8 : c * K ≤ d * K := Nat.mul_le_mul_right _ hcd
  rw [Nat.add_mul, Nat.add_mul] at i5
  rw [Nat.mul_add] at i7
  have hX : b * (y0 * K + y') - a * (x0 * K + x') + a * (x0 * K + x') = b * (y0 * K + y') := by omega
  have hY : c * (x0 * K + x') - d * (y0 * K + y') + d * (y0 * K + y') = c * (x0 * K + x') := by omega
  refine ⟨_, _, hX, hY, by omega, ?_, ?_, hc1, hd1⟩
  · generalize x0 * K + x' = x at *
    generalize y0 * K + y' = y at *
    generalize b * y - a * x = X at *
    generalize c * x - d * y = Y at *
    have g1 : d * X + d * (a * x) = d * (b * y) := by rw [← Nat.mul_add, hX]
    have g2 : b * Y + b * (d * y) = b * (c * x) := by rw [← Nat.mul_add, hY]
    have g3 : b * (c * x) = d * (a * x) + x := by
      have : b * c * x = (a * d + 1) * x := by rw [h3]
      grind
    have g4 : d * (b * y) = b * (d * y) := by grind
    omega
  · generalize x0 * K + x' = x at *
    generalize y0 * K + y' = y at *
    generalize b * y - a * x = X at *
    generalize c * x - d * y = Y at *
    have g1 : c * X + c * (a * x) = c * (b * y) := by rw [← Nat.mul_add, hX]
    have g2 : a * Y + a * (d * y) = a * (c * x) := by rw [← Nat.mul_add, hY]
    have g3 : c * (b * y) = a * (d * y) + y := by
      have : b * c * y = (a * d + 1) * y := by rw [h3]
      grind
    have g4 : c * (a * x) = a * (c * x) := by grind
    omega
theorem gcd_of_lin {x y X Y a b c d : Nat} (hx : x = d * X + b * Y) (hy : y = c * X + a * Y)
    (h : (X + b * y = a * x ∧ Y + c * x = d * y) ∨ (X + a * x = b * y ∧ Y + d * y = c * x)) : Nat.gcd X Y = Nat.gcd x y := by
  have dX : Nat.gcd x y ∣ X := by
    rcases h with ⟨h, _⟩ | ⟨h, _⟩
    · exact (Nat.dvd_add_left (Nat.dvd_mul_left_of_dvd (Nat.gcd_dvd_right x y) b)).1 (h ▸ Nat.dvd_mul_left_of_dvd (Nat.gcd_dvd_left x y) a)
    · exact (Nat.dvd_add_left (Nat.dvd_mul_left_of_dvd (Nat.gcd_dvd_left x y) a)).1 (h ▸ Nat.dvd_mul_left_of_dvd (Nat.gcd_dvd_right x y) b)
  have dY : Nat.gcd x y ∣ Y := by
    rcases h with ⟨_, h⟩ | ⟨_, h⟩
    · exact (Nat.dvd_add_left (Nat.dvd_mul_left_of_dvd (Nat.gcd_dvd_left x y) c)).1 (h ▸ Nat.dvd_mul_left_of_dvd (Nat.gcd_dvd_right x y) d)
    · exact (Nat.dvd_add_left (Nat.dvd_mul_left_of_dvd (Nat.gcd_dvd_right x y) d)).1 (h ▸ Nat.dvd_mul_left_of_dvd (Nat.gcd_dvd_left x y) c)
  refine Nat.dvd_antisymm ?_ (Nat.dvd_gcd dX dY)
  refine Nat.dvd_gcd ?_ ?_
  · rw [hx]; exact Nat.dvd_add (Nat.dvd_mul_left_of_dvd (Nat.gcd_dvd_left X Y) d) (Nat.dvd_mul_left_of_dvd (Nat.gcd_dvd_right X Y) b)
  · rw [hy]; exact Nat.dvd_add (Nat.dvd_mul_left_of_dvd (Nat.gcd_dvd_left X Y) c) (Nat.dvd_mul_left_of_dvd (Nat.gcd_dvd_right X Y) a)
end Go.Proofs.YtccabfblgjcboaaGreatDoor.Lim

namespace Go.Proofs.YtccabfblgjcboaaGreatDoor
open Go Go.RowKit Go.Proofs Lim
def StepsAt (w : World) (k a b c d : Nat) (odd : Bool) : Prop := w.heap[k]? = some (.cells #[u a, u b, u c, u d, .bool odd] 190 (0, 0))
theorem StepsAt.cells {w : World} {k a b c d : Nat} {odd : Bool} (h : StepsAt w k a b c d odd) :
    (w.cell? ⟨k, 0, none⟩ = some (u a) ∧ w.cell? ⟨k, 1, none⟩ = some (u b) ∧ w.cell? ⟨k, 2, none⟩ = some (u c) ∧ w.cell? ⟨k, 3, none⟩ = some (u d) ∧ w.cell? ⟨k, 4, none⟩ = some (.bool odd)) ∧
      ∀ i, w.frozen? ⟨k, i, none⟩ = false := by
  unfold StepsAt at h
  refine ⟨by simp [World.cell?, h], fun i => by simp [World.frozen?, h]⟩
theorem StepsAt.store {w : World} {k a b c d a' b' c' d' : Nat} {odd odd' : Bool} (h : StepsAt w k a b c d odd) :
    StepsAt (((((w.setCell ⟨k, 0, none⟩ (u a')).setCell ⟨k, 1, none⟩ (u b')).setCell ⟨k, 2, none⟩ (u c')).setCell ⟨k, 3, none⟩ (u d')).setCell ⟨k, 4, none⟩ (.bool odd')) k a' b' c' d' odd' := by
  unfold StepsAt at h ⊢
  simp [World.setCell, Array.getElem?_modify, h]
theorem steps_sum_le {x0 y0 xi yi a b c d : Nat} {odd : Bool} (h : Lim.Steps x0 y0 xi yi a b c d odd) (hy : 0 < yi) (hr : 0 < xi % yi) : d + (b + xi / yi * d) ≤ x0 := by
  have hx := h.hx
  have hdm : xi = yi * (xi / yi) + xi % yi := (Nat.div_add_mod xi yi).symm
  generalize xi / yi = q at *
  generalize xi % yi = r at *
  rw [hdm] at hx
  have e : d * (yi * q + r) + b * yi = (b + q * d) * yi + d * r := by grind
  rw [e] at hx
  have h1 : (b + q * d) * 1 ≤ (b + q * d) * yi := Nat.mul_le_mul_left _ hy
  have h2 : d * 1 ≤ d * r := Nat.mul_le_mul_left _ hr
  omega
def ForeseePost (w : World) (x y : Nat) (e : Ending) (w' : World) : Prop :=
  ∃ a b c d X Y odd, e = .returned (.agg #[u a, u b, u c, u d, .bool odd]) ∧ Lim.Steps x y X Y a b c d odd ∧ a < B ∧ b < B ∧ c < B ∧ d < B ∧ Below w.heap.size w w'
theorem foresee_any (x y : Nat) (hx : x < B) (hy : y < B) (hle : y ≤ x) (w : World) : Calls Tryz.prog 167 #[u x, u y] w (ForeseePost w x y) := by
  go_enter Tryz.func167, Tryz.ntmps167
  go_wp2_with fail
  go_loopw [0, 1] (fun s0 s1 wr => ∃ X Y a b c d odd, s0 = u X ∧ s1 = u Y ∧ Hid (StepsAt wr w.heap.size 0 0 0 0 false) ∧ Hid (StepsAt wr (w.heap.size + 1) a b c d odd) ∧
      Hid (Lim.Steps x y X Y a b c d odd ∧ a < B ∧ b < B ∧ c < B ∧ d < B ∧ X < B ∧ Y < B) ∧ Hid (Below w.heap.size w wr)) (fun _ s1 _ => (intOf s1).toNat)
  case atStart =>
    refine ⟨x, y, 1, 0, 0, 1, false, rfl, rfl, ?_, ?_, ⟨Lim.Steps.start x y hle, by decide, by decide, by decide, by decide, hx, hy⟩, ((Below.refl _ w).alloc (Nat.le_refl _) _).alloc (by simp) _⟩
    · show _ = _
      rw [Below.heap_alloc _ _ _ (by simp)]
      exact heap_alloc_new w _
    · show _ = _
      have : w.heap.size + 1 = (w.alloc (Obj.cells #[Value.int .u64 0, Value.int .u64 0, Value.int .u64 0, Value.int .u64 0, Value.bool false] 190)).heap.size := by simp
      rw [this, heap_alloc_new]
      rfl
  case round =>
    obtain ⟨X, Y, a, b, c, d, odd, rfl, rfl, hR, hS, hI, hBe⟩ := hrel
    obtain ⟨⟨q0, q1, q2, q3, q4⟩, qf⟩ := hS.out.cells
    obtain ⟨⟨r0, r1, r2, r3, r4⟩, rf⟩ := hR.out.cells
    have p0 := qf 0
    have p1 := qf 1
    have p2 := qf 2
    have p3 := qf 3
    have p4 := qf 4
    have o0 := rf 0
    have o1 := rf 1
    have o2 := rf 2
    have o3 := rf 3
    have o4 := rf 4
    clear qf rf
    by_cases hY : Y = 0
    · have hb : (((Y : Nat) : Int) != 0) = false := by subst hY; rfl
      clear hY
      go_wp2_with fail
      refine bodyPost_ret (v := .agg #[u a, u b, u c, u d, .bool odd]) (by simp [results, Tryz.results167, go_sem, r0, r1, r2, r3, r4]) rfl ?_
      refine ⟨a, b, c, d, X, Y, odd, rfl, hI.out.1, hI.out.2.1, hI.out.2.2.1, hI.out.2.2.2.1, hI.out.2.2.2.2.1, ?_⟩
      exact hBe.out.trans ((((((Only.refl w.heap.size wr).set 0 _).set 1 _).set 2 _).set 3 _).set 4 _ |>.below (Nat.le_refl _))
    · have hb : (((Y : Nat) : Int) != 0) = true := by rw [bne_iff_ne]; omega
      have hY0 : 0 < Y := by omega
      have hb1 := hI.out.1.bd hY0
      have hXB : X < B := hI.out.2.2.2.2.2.1
      have hYB : Y < B := hI.out.2.2.2.2.2.2
      have haB := hI.out.2.1
      have hbB := hI.out.2.2.1
      have hcB := hI.out.2.2.2.1
      have hdB := hI.out.2.2.2.2.1
      have hrY : X % Y < Y := Nat.mod_lt _ hY0
      have hnext := fun c1 c2 => hI.out.1.next hY0 c1 c2
      have hsum := fun hr => steps_sum_le hI.out.1 hY0 hr
      have hd1 := hI.out.1.d1
      have k1 : ((X : Nat) : Int) / ((Y : Nat) : Int) = ((X / Y : Nat) : Int) := by rw [Int.natCast_ediv]
      have k2 : ((X : Nat) : Int) % ((Y : Nat) : Int) = ((X % Y : Nat) : Int) := by rw [Int.natCast_emod]
      have hqle : X / Y ≤ X := Nat.div_le_self _ _
      have hqpos : X / Y * Y ≤ X := Nat.div_mul_le_self _ _
      generalize X / Y = q at *
      generalize X % Y = r at *
      obtain ⟨qc, hqc⟩ : ∃ qc, qc = q * c := ⟨_, rfl⟩
      obtain ⟨qd, hqd⟩ : ∃ qd, qd = q * d := ⟨_, rfl⟩
      rw [← hqc, ← hqd] at hb1
      have k0 : IntKind.u64.wrap ((q : Nat) : Int) = (q : Int) := wrap_nat (by omega)
      have k3 : IntKind.u64.wrap ((q : Int) * (c : Int)) = (qc : Int) := by rw [hqc, ← Int.natCast_mul, wrap_nat (by omega)]
      have k5 : IntKind.u64.wrap ((q : Int) * (d : Int)) = (qd : Int) := by rw [hqd, ← Int.natCast_mul, wrap_nat (by omega)]
      obtain ⟨c', hc'⟩ : ∃ c', c' = a + qc := ⟨_, rfl⟩
      obtain ⟨d', hd'⟩ : ∃ d', d' = b + qd := ⟨_, rfl⟩
      have k4 : IntKind.u64.wrap ((a : Int) + (qc : Int)) = (c' : Int) := by rw [wrap_add (by omega), hc']
      have k6 : IntKind.u64.wrap ((b : Int) + (qd : Int)) = (d' : Int) := by rw [wrap_add (by omega), hd']
      have hc'B : c' < B := by omega
      have hd'B : d' < B := by omega
      rw [← hqd] at hsum hnext
      rw [← hqc] at hnext
      rw [← hd'] at hsum hnext
      rw [← hc'] at hnext
      have HNx := Lib.hid hnext
      have HSm := Lib.hid hsum
      clear hnext hsum hqc hqd hb1 hqle hqpos
      by_cases hlt : r < d'
      · clear hc' hd'
        go_wp2_with fail
        go_quiet (fail)
        go_wp2_with fail
        go_quiet (fail)
        go_wp2_with fail
        refine bodyPost_ret (v := .agg #[u a, u b, u c, u d, .bool odd]) (by simp [results, Tryz.results167, go_sem, r0, r1, r2, r3, r4]) rfl ?_
        refine ⟨a, b, c, d, X, Y, odd, rfl, hI.out.1, hI.out.2.1, hI.out.2.2.1, hI.out.2.2.2.1, hI.out.2.2.2.2.1, ?_⟩
        exact (hBe.out.trans (bdrewN (Below.refl _ _))).trans ((((((Only.refl w.heap.size _).set 0 _).set 1 _).set 2 _).set 3 _).set 4 _ |>.below (Nat.le_refl _))
      · obtain ⟨dd, hdd⟩ : ∃ dd, dd = d + d' := ⟨_, rfl⟩
        obtain ⟨yr, hyr⟩ : ∃ yr, yr = Y - r := ⟨_, rfl⟩
        have hd'1 : 1 ≤ d' ∨ d' = 0 := by omega
        have hddB : dd < B := by
          rcases Nat.eq_zero_or_pos r with h0 | h0
          · have : d' = 0 := by omega
            omega
          · have := HSm.out h0
            omega
        have k7 : IntKind.u64.wrap ((Y : Int) - (r : Int)) = (yr : Int) := by rw [wrap_sub hYB (by omega), hyr]
        have k8 : IntKind.u64.wrap ((d : Int) + (d' : Int)) = (dd : Int) := by rw [wrap_add (by omega), hdd]
        have HDD := Lib.hid hdd
        have HYR := Lib.hid hyr
        clear hdd hyr hc' hd' hd'1
        by_cases hlt2 : yr < dd
        · go_wp2_with fail
          go_quiet (fail)
          go_wp2_with fail
          go_quiet (fail)
          go_wp2_with fail
          refine bodyPost_ret (v := .agg #[u a, u b, u c, u d, .bool odd]) (by simp [results, Tryz.results167, go_sem, r0, r1, r2, r3, r4]) rfl ?_
          refine ⟨a, b, c, d, X, Y, odd, rfl, hI.out.1, hI.out.2.1, hI.out.2.2.1, hI.out.2.2.2.1, hI.out.2.2.2.2.1, ?_⟩
          exact (hBe.out.trans (bdrewN (Below.refl _ _))).trans ((((((Only.refl w.heap.size _).set 0 _).set 1 _).set 2 _).set 3 _).set 4 _ |>.below (Nat.le_refl _))
        · go_wp2_with fail
          go_quiet (fail)
          go_wp2_with fail
          go_quiet (fail)
          go_wp2_with fail
          go_roundw
          case rel =>
            refine ⟨Y, r, c, d, c', d', !odd, rfl, by rw [k2], ?_, ?_, ⟨HNx.out (by omega) (by rw [← HDD.out, ← HYR.out]; omega), hcB, hdB, hc'B, hd'B, hYB, by omega⟩, ?_⟩
            · exact Eq.trans (((((((Only.refl (w.heap.size + 1) wr).drewN _).set 0 _).set 1 _).set 2 _).set 3 _ |>.set 4 _).block w.heap.size (by omega)) hR.out
            · exact StepsAt.store (w := wr.drewN _) hS.out
            · exact hBe.out.trans ((((((Only.refl (w.heap.size + 1) wr).drewN _).set 0 _).set 1 _).set 2 _).set 3 _ |>.set 4 _ |>.below (by omega))
          case measure => simp [intOf, k2]; omega
open Go Go.RowKit Go.Proofs Lim
theorem B_eq : B = 2 ^ 64 := by decide
def lz (y : Nat) : Nat := 64 - Lib.bitLen y
theorem bitLen_le64 {y : Nat} (hy : y < B) : Lib.bitLen y ≤ 64 := by
  have := Any.bitLen_le64 (y : Int) (by omega) (by unfold B at hy; omega)
  simpa using this
theorem lz_any (y : Nat) (hy : y < B) (w : World) : Calls Tryz.prog 153 #[u y] w fun e w' => e = .returned (.int .i64 (lz y : Nat)) ∧ w = w' := by
  refine (Tryz.bits_LeadingZeros64 y w (by omega) (by unfold B at hy; omega)).mono ?_
  rintro e w' ⟨rfl, rfl⟩
  refine ⟨?_, rfl⟩
  have h := bitLen_le64 hy
  unfold lz
  rw [Int.toNat_natCast, show (64 - (Lib.bitLen y : Int)) = ((64 - Lib.bitLen y : Nat) : Int) from by omega]
theorem bitLenAux_spec : ∀ (f x : Nat), x < 2 ^ f → x < 2 ^ Lib.bitLenAux f x ∧ (x ≠ 0 → 2 ^ (Lib.bitLenAux f x - 1) ≤ x)
  | 0, x, h => by
    have : x = 0 := by simpa using h
    subst this; simp [Lib.bitLenAux]
  | f + 1, x, h => by
    unfold Lib.bitLenAux
    split
    · rename_i h0; subst h0; simp
    · rename_i h0
      have hx : x / 2 < 2 ^ f := by rw [Nat.pow_succ] at h; omega
      obtain ⟨h1, h2⟩ := bitLenAux_spec f (x / 2) hx
      have hz : x / 2 = 0 → Lib.bitLenAux f (x / 2) = 0 := fun e => by rw [e]; cases f <;> simp [Lib.bitLenAux]
      generalize Lib.bitLenAux f (x / 2) = n at *
      refine ⟨by rw [Nat.add_comm, Nat.pow_succ]; omega, fun _ => ?_⟩
      rcases Nat.eq_zero_or_pos n with hn | hn
      · subst hn; simp; omega
      · have h3 := h2 (fun e => by have := hz e; omega)
        rw [show 1 + n - 1 = (n - 1) + 1 from by omega, Nat.pow_succ]
        omega
theorem bitLen_spec' {x : Nat} (h : x < B) : x < 2 ^ Lib.bitLen x ∧ (x ≠ 0 → 2 ^ (Lib.bitLen x - 1) ≤ x) := bitLenAux_spec 64 x (by rw [← B_eq]; exact h)
theorem lz_spec {y : Nat} (h0 : 0 < y) (hy : y < B) : lz y ≤ 63 ∧ y * 2 ^ lz y < B ∧ B ≤ 2 * (y * 2 ^ lz y) := by
  have h := bitLen_le64 hy
  obtain ⟨h1, h2⟩ := bitLen_spec' hy
  have h3 := h2 (by omega)
  have hb : 1 ≤ Lib.bitLen y := by
    rcases Nat.eq_zero_or_pos (Lib.bitLen y) with e | e
    · rw [e] at h1; simp at h1; omega
    · exact e
  unfold lz
  generalize Lib.bitLen y = n at *
  have e1 : 2 ^ n * 2 ^ (64 - n) = B := by rw [← Nat.pow_add, B_eq]; congr 1; omega
  have e2 : 2 * 2 ^ (n - 1) = 2 ^ n := by rw [Nat.mul_comm, ← Nat.pow_succ]; congr 1; omega
  have hp : 0 < 2 ^ (64 - n) := Nat.pow_pos (by omega)
  refine ⟨by omega, ?_, ?_⟩
  · rw [← e1]; exact (Nat.mul_lt_mul_right hp).2 h1
  · rw [← e1, ← e2, Nat.mul_assoc]
    exact Nat.mul_le_mul_left _ (Nat.mul_le_mul_right _ h3)
theorem shl_split (x s : Nat) (hs : s ≤ 64) : x * 2 ^ s = x / 2 ^ (64 - s) * B + x * 2 ^ s % B := by
  have e1 : 2 ^ (64 - s) * 2 ^ s = B := by rw [← Nat.pow_add, B_eq]; congr 1; omega
  have h := Nat.div_add_mod (x * 2 ^ s) B
  have e2 : x * 2 ^ s / B = x / 2 ^ (64 - s) := by rw [← e1, Nat.mul_div_mul_right _ _ (Nat.pow_pos (by omega))]
  rw [e2] at h
  rw [Nat.mul_comm (x / 2 ^ (64 - s)) B]
  omega
theorem shr_lt {x s : Nat} (hx : x < B) (hs : s ≤ 64) : x / 2 ^ (64 - s) < 2 ^ s := by
  have e1 : 2 ^ (64 - s) * 2 ^ s = B := by rw [← Nat.pow_add, B_eq]; congr 1; omega
  exact Nat.div_lt_of_lt_mul (by omega)
theorem wrap_shl (x s : Nat) : IntKind.u64.wrap ((x : Int) * 2 ^ s) = ((x * 2 ^ s % B : Nat) : Int) := by
  rw [IntKind.wrap_u64]
  unfold B
  rw [Int.natCast_emod, Int.natCast_mul, Int.natCast_pow]
  rfl
theorem div_pow (x s : Nat) : (x : Int) / 2 ^ s = ((x / 2 ^ s : Nat) : Int) := by
  rw [Int.natCast_ediv, Int.natCast_pow]; rfl
theorem or_add {a b s : Nat} (hb : b < 2 ^ s) (h : a * 2 ^ s + b < B) : bits .or .u64 ((a * 2 ^ s : Nat) : Int) (b : Int) = ((a * 2 ^ s + b : Nat) : Int) := by
  rw [bits_or_u64_nat _ _ (by unfold B at h; omega) (by unfold B at h; omega)]
  congr 1
  rw [← Nat.shiftLeft_eq, Nat.shiftLeft_add_eq_or_of_lt hb]
theorem or_add' {a b s : Nat} (hb : b < 2 ^ s) (h : a * 2 ^ s + b < B) : bits .or .u64 (b : Int) ((a * 2 ^ s : Nat) : Int) = ((a * 2 ^ s + b : Nat) : Int) := by
  rw [bits_or_u64_nat _ _ (by unfold B at h; omega) (by unfold B at h; omega)]
  congr 1
  rw [Nat.or_comm, ← Nat.shiftLeft_eq, Nat.shiftLeft_add_eq_or_of_lt hb]
def H : Nat := 4294967296
theorem HH : H * H = B := by decide
theorem H_pos : 0 < H := by decide
theorem and_half {x : Nat} (h : x < B) : bits .and .u64 (x : Int) 4294967295 = ((x % H : Nat) : Int) := by
  rw [and_low32 _ (by omega) (by unfold B at h; omega)]
  unfold H
  omega
theorem div_half (x : Nat) : (x : Int) / 4294967296 = ((x / H : Nat) : Int) := by unfold H; omega
end Go.Proofs.YtccabfblgjcboaaGreatDoor

namespace Go.Proofs.YtccabfblgjcboaaGreatDoor.Lim
theorem guess_init (v1 v2 v' u0 u1 u2 u' W Bs guess rest q : Nat) (_hW : v' < W) (hu' : u' < W) (hu2 : u2 < Bs)
    (hg : guess * v1 + rest = u0 * Bs + u1) (hr : rest < v1)
    (hq : q * ((v1 * Bs + v2) * W + v') ≤ ((u0 * Bs + u1) * Bs + u2) * W + u') : q ≤ guess := by
  have h1 : q * (v1 * Bs * W) ≤ q * ((v1 * Bs + v2) * W + v') := Nat.mul_le_mul_left _ (by rw [Nat.add_mul]; omega)
  have h2 : ((u0 * Bs + u1) * Bs + u2) * W + u' < ((u0 * Bs + u1) * Bs + u2 + 1) * W := by
    have := Nat.add_mul ((u0 * Bs + u1) * Bs + u2) 1 W
    omega
  have h3 : ((u0 * Bs + u1) * Bs + u2 + 1) * W ≤ ((u0 * Bs + u1 + 1) * Bs) * W := Nat.mul_le_mul_right _ (by rw [Nat.add_mul (u0 * Bs + u1)]; omega)
  have h4 : (q * v1) * (Bs * W) < (u0 * Bs + u1 + 1) * (Bs * W) := by
    have e1 : q * (v1 * Bs * W) = (q * v1) * (Bs * W) := by simp only [Nat.mul_assoc]
    have e2 : ((u0 * Bs + u1 + 1) * Bs) * W = (u0 * Bs + u1 + 1) * (Bs * W) := by simp only [Nat.mul_assoc]
    omega
  have h5 : q * v1 < u0 * Bs + u1 + 1 := Nat.lt_of_mul_lt_mul_right h4
  have h6 : q * v1 < (guess + 1) * v1 := by rw [Nat.add_mul]; omega
  have := Nat.lt_of_mul_lt_mul_right h6
  omega
theorem guess_lower (v1 v2 v' u0 u1 u2 u' W Bs guess rest q : Nat) (hu' : u' < W)
    (hg : guess * v1 + rest = u0 * Bs + u1) (hbig : rest * Bs + u2 < guess * v2)
    (hq : q * ((v1 * Bs + v2) * W + v') ≤ ((u0 * Bs + u1) * Bs + u2) * W + u') : q < guess := by
  have h1 : ((u0 * Bs + u1) * Bs + u2) < guess * (v1 * Bs + v2) := by
    rw [← hg, Nat.add_mul, Nat.mul_add, ← Nat.mul_assoc]; omega
  have h2 : (((u0 * Bs + u1) * Bs + u2) + 1) * W ≤ guess * (v1 * Bs + v2) * W := Nat.mul_le_mul_right _ h1
  rw [Nat.add_mul] at h2
  have h3 : q * ((v1 * Bs + v2) * W) ≤ q * ((v1 * Bs + v2) * W + v') := Nat.mul_le_mul_left _ (by omega)
  have h4 : q * ((v1 * Bs + v2) * W) < guess * ((v1 * Bs + v2) * W) := by rw [← Nat.mul_assoc guess]; omega
  exact Nat.lt_of_mul_lt_mul_right h4
theorem guess_done (v1 v2 v' u0 u1 u2 u' W Bs guess q : Nat) (hW : v' < W) (hgB : guess ≤ Bs) (hv1 : 0 < v1)
    (hfit : guess * (v1 * Bs + v2) ≤ (u0 * Bs + u1) * Bs + u2)
    (hq : ((u0 * Bs + u1) * Bs + u2) * W + u' < (q + 1) * ((v1 * Bs + v2) * W + v')) : guess ≤ q + 1 := by
  have h1 : guess * (v1 * Bs + v2) * W ≤ ((u0 * Bs + u1) * Bs + u2) * W := Nat.mul_le_mul_right _ hfit
  have h2 : guess * v' ≤ Bs * W := Nat.mul_le_mul hgB (by omega)
  have h3 : Bs * W ≤ (v1 * Bs + v2) * W + v' := by
    have : 1 * Bs * W ≤ (v1 * Bs + v2) * W := Nat.mul_le_mul_right _ (Nat.le_trans (Nat.mul_le_mul_right _ hv1) (by omega))
    rw [Nat.one_mul] at this; omega
  have h4 : guess * ((v1 * Bs + v2) * W + v') < (q + 1 + 1) * ((v1 * Bs + v2) * W + v') := by
    rw [Nat.mul_add guess, ← Nat.mul_assoc, Nat.add_mul (q + 1) 1, Nat.one_mul]; omega
  have := Nat.lt_of_mul_lt_mul_right h4
  omega
theorem guess_full (v1 v2 v' u0 u1 u2 u' W Bs q : Nat) (hW : v' < W) (hB : 0 < Bs) (hv2 : v2 < Bs) (hu0 : v1 ≤ u0) (hv1 : Bs ≤ 2 * v1)
    (hq : ((u0 * Bs + u1) * Bs + u2) * W + u' < (q + 1) * ((v1 * Bs + v2) * W + v')) : Bs - 1 ≤ q + 1 := by
  have hv : (v1 * Bs + v2) * W + v' < (v1 + 1) * Bs * W := by
    have h : (v1 * Bs + v2 + 1) * W ≤ (v1 + 1) * Bs * W := Nat.mul_le_mul_right _ (by rw [Nat.add_mul]; omega)
    rw [Nat.add_mul (v1 * Bs + v2) 1] at h
    omega
  have hu : v1 * Bs * Bs * W ≤ ((u0 * Bs + u1) * Bs + u2) * W + u' := by
    have h1 : v1 * Bs * Bs ≤ (u0 * Bs + u1) * Bs + u2 := by
      have := Nat.mul_le_mul_right Bs (show v1 * Bs ≤ u0 * Bs + u1 from by have := Nat.mul_le_mul_right Bs hu0; omega)
      omega
    have := Nat.mul_le_mul_right W h1
    omega
  have h : v1 * Bs * Bs * W < (q + 1) * ((v1 + 1) * Bs * W) := by
    have := Nat.mul_le_mul_left (q + 1) (Nat.le_of_lt hv)
    omega
  have h' : (v1 * Bs) * (Bs * W) < ((q + 1) * (v1 + 1)) * (Bs * W) := by
    have e1 : v1 * Bs * Bs * W = (v1 * Bs) * (Bs * W) := by simp only [Nat.mul_assoc]
    have e2 : (q + 1) * ((v1 + 1) * Bs * W) = ((q + 1) * (v1 + 1)) * (Bs * W) := by simp only [Nat.mul_assoc]
    omega
  have h5 : v1 * Bs < (q + 1) * (v1 + 1) := Nat.lt_of_mul_lt_mul_right h'
  rcases Nat.lt_or_ge (q + 1) (Bs - 1) with hlt | hge
  · exfalso
    have h6 : (q + 1) * (v1 + 1) ≤ (Bs - 2) * (v1 + 1) := Nat.mul_le_mul_right _ (by omega)
    have h7 : (Bs - 2) * (v1 + 1) = (Bs - 2) * v1 + (Bs - 2) := by rw [Nat.mul_add, Nat.mul_one]
    have h8 : v1 * Bs = (Bs - 2) * v1 + 2 * v1 := by
      rw [← Nat.add_mul, Nat.mul_comm]; congr 1; omega
    omega
  · exact hge
end Go.Proofs.YtccabfblgjcboaaGreatDoor.Lim
