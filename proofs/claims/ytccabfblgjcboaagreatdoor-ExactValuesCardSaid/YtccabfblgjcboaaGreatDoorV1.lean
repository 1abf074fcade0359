/- Package exact: Math Base Shift GcdWord Frame FrameEnds. -/
import Derived.WalkKit
import Derived.WalkSpells
import Derived.WalkLawsBesides
import Derived.Deep.QuietTactic
import Derived.BigQuiet
import Derived.Deep.RegionHeld3
import Derived.Deep.RegionWith
import Derived.Deep.DeepCutAuto
import Derived.Deep.CutBlock
import Derived.Deep.DeepFit
import Derived.IntWalk
import Derived.Lib.Hide
import Derived.Test.YtccabfblgjcboaaGreatDoorShelf
import Derived.Laws.MathBits
import Derived.Test.YtccabfblgjcboaaGreatDoorCards
import Derived.Test.YtccabfblgjcboaaGreatDoorTie
import Derived.ProofKit
import Derived.OpenShut
import Derived.LaidMore
import Derived.LaidLaws
import Derived.Lib.LaidTab
import Derived.Shelf.Vars
import Derived.Deep.DeepHandedRow
import Derived.Deep.DeepWitnessRowRef
import Derived.Carry
set_option linter.all false

namespace Go.Proofs.YtccabfblgjcboaaGreatDoor.Lim
def B : Nat := 18446744073709551616
theorem cO : 0 < B := by decide
def val : List Nat → Nat
 | [] => 0
 | x :: xs => x + B * val xs
def Ok (l : List Nat) : Prop := ∀ x ∈ l, x < B
theorem Ok.nil : Ok [] := by intro x h; cases h
theorem Ok.cons {x : Nat} {l : List Nat} (hx : x < B) (h : Ok l) : Ok (x :: l) := by
 intro y hy; rcases List.mem_cons.1 hy with rfl | hy
 · exact hx
 · exact h y hy
theorem Ok.head {x : Nat} {l : List Nat} (h : Ok (x :: l)) : x < B := h x (by simp)
theorem Ok.tail {x : Nat} {l : List Nat} (h : Ok (x :: l)) : Ok l := fun y hy => h y (by simp [hy])
theorem Ok.append {l m : List Nat} (h : Ok l) (h' : Ok m) : Ok (l ++ m) := by
 intro x hx; rcases List.mem_append.1 hx with hx | hx
 · exact h x hx
 · exact h' x hx
theorem Ok.take {l : List Nat} (h : Ok l) (k : Nat) : Ok (l.take k) := fun x hx => h x (List.mem_of_mem_take hx)
theorem Ok.drop {l : List Nat} (h : Ok l) (k : Nat) : Ok (l.drop k) := fun x hx => h x (List.mem_of_mem_drop hx)
theorem Ok.set {l : List Nat} (h : Ok l) (k v : Nat) (hv : v < B) : Ok (l.set k v) := by
 intro x hx; rcases List.mem_or_eq_of_mem_set hx with hx | hx
 · exact h x hx
 · rw [hx]; exact hv
theorem Ok.replicate (n : Nat) : Ok (List.replicate n 0) := by
 intro x hx; rw [(List.mem_replicate.1 hx).2]; exact cO
theorem Ok.get {l : List Nat} (h : Ok l) (k : Nat) : l[k]?.getD 0 < B := by
 rcases Nat.lt_or_ge k l.length with hk | hk
 · rw [List.getElem?_eq_getElem hk]; exact h _ (List.getElem_mem hk)
 · rw [List.getElem?_eq_none hk]; exact cO
theorem val_nil : val [] = 0 := rfl
theorem val_cons (x : Nat) (l : List Nat) : val (x :: l) = x + B * val l := rfl
theorem val_append (l m : List Nat) : val (l ++ m) = val l + B ^ l.length * val m := by
 induction l with
 | nil => simp [val]
 | cons x l ih => simp only [List.cons_append, val, ih, List.length_cons, Nat.pow_succ]; grind
theorem cW {l : List Nat} (h : Ok l) : val l < B ^ l.length := by
 induction l with
 | nil => simp [val]
 | cons x l ih =>
  have h1 := ih h.tail
  have h2 := h.head
  simp only [val, List.length_cons, Nat.pow_succ]
  have : B * (val l + 1) ≤ B * B ^ l.length := Nat.mul_le_mul_left _ h1
  rw [Nat.mul_comm (B ^ l.length) B]
  rw [Nat.mul_add] at this
  omega
theorem val_replicate (n : Nat) : val (List.replicate n 0) = 0 := by
 induction n with
 | zero => rfl
 | succ n ih => simp [List.replicate_succ, val, ih]
theorem val_take_drop (l : List Nat) (k : Nat) (h : k ≤ l.length) : val l = val (l.take k) + B ^ k * val (l.drop k) := by
 conv => lhs; rw [← List.take_append_drop k l, val_append]
 rw [List.length_take, Nat.min_eq_left h]
theorem take_succ_get (l : List Nat) (k : Nat) (h : k < l.length) : l.take (k + 1) = l.take k ++ [l[k]?.getD 0] := by
 rw [List.take_succ_eq_append_getElem h, List.getElem?_eq_getElem h]; rfl
theorem cG (l : List Nat) (k : Nat) (h : k < l.length) : val (l.take (k + 1)) = val (l.take k) + B ^ k * l[k]?.getD 0 := by
 rw [take_succ_get l k h, val_append, List.length_take, Nat.min_eq_left (by omega)]
 simp [val]
theorem val_set (l : List Nat) (k v : Nat) (h : k < l.length) : val (l.set k v) + B ^ k * l[k]?.getD 0 = val l + B ^ k * v := by
 induction l generalizing k with
 | nil => simp at h
 | cons x l ih =>
  cases k with
  | zero => simp [val]; omega
  | succ k =>
   have h1 := ih k (by simpa using h)
   simp only [List.set_cons_succ, val, List.getElem?_cons_succ, Nat.pow_succ]
   grind
theorem val_eq_of_lt {n a b c d : Nat} (h : a + n * b = c + n * d) (ha : a < n) (hc : c < n) : a = c ∧ b = d := by
 have h1 : (a + n * b) % n = a := by rw [Nat.add_mul_mod_self_left, Nat.mod_eq_of_lt ha]
 have h2 : (c + n * d) % n = c := by rw [Nat.add_mul_mod_self_left, Nat.mod_eq_of_lt hc]
 have : a = c := by rw [← h1, ← h2, h]
 subst this
 refine ⟨rfl, ?_⟩
 have : n * b = n * d := by omega
 exact Nat.eq_of_mul_eq_mul_left (by omega) this
def Trim (l : List Nat) : Prop := ∀ h : l ≠ [], l.getLast h ≠ 0
theorem je {l : List Nat} (h : Trim l) (hn : l ≠ []) : B ^ (l.length - 1) ≤ val l := by
 have h1 : l = l.dropLast ++ [l.getLast hn] := (List.dropLast_concat_getLast hn).symm
 have h2 := h hn
 rw [h1, val_append]
 simp only [val, List.length_append, List.length_dropLast, List.length_cons, List.length_nil]
 have : B ^ (l.length - 1) * 1 ≤ B ^ (l.length - 1) * (l.getLast hn + B * 0) := Nat.mul_le_mul_left _ (by omega)
 simp only [Nat.add_sub_cancel, Nat.zero_add]
 omega
theorem val_eq_zero {l : List Nat} (h : Trim l) : val l = 0 ↔ l = [] := by
 constructor
 · intro hv
   rcases l with _ | ⟨x, l⟩
   · rfl
   · have := je h (by simp)
     have : 0 < B ^ ((x :: l).length - 1) := Nat.pow_pos cO
     omega
 · rintro rfl; rfl
theorem length_le_of_val_le {l m : List Nat} (hl : Trim l) (hm : Ok m) (h : val l ≤ val m) : l.length ≤ m.length := by
 rcases l with _ | ⟨x, l⟩
 · simp
 · have h1 := je hl (by simp)
   have h2 := cW hm
   have h3 : B ^ ((x :: l).length - 1) < B ^ m.length := by omega
   have := (Nat.pow_lt_pow_iff_right (show 1 < B by decide)).1 h3
   simp at this ⊢
   omega
end Go.Proofs.YtccabfblgjcboaaGreatDoor.Lim

namespace Go.Proofs.YtccabfblgjcboaaGreatDoor
open Go Go.RowKit Lim
abbrev u (n : Nat) : Value := .int .u64 (n : Int)
def Blk (w : World) (b : Nat) (L : List Nat) : Prop := ∃ T : List Value, w.heap[b]? = some (.cells (L.map u ++ T).toArray 23 (0, 0))
def Row (w : World) (b off : Nat) (xs : List Nat) : Prop := ∀ i, i < xs.length → w.cell? ⟨b, off + i, none⟩ = some (u (xs[i]?.getD 0))
structure cN (b : Nat) (w w' : World) : Prop where
 os : w'.os = w.os
 tape : w'.tape = w.tape
 output : w'.output = w.output
 size : w'.heap.size = w.heap.size
 block : ∀ k, k ≠ b → w'.heap[k]? = w.heap[k]?
theorem cN.refl (b : Nat) (w : World) : cN b w w := ⟨rfl, rfl, rfl, rfl, fun _ _ => rfl⟩
theorem cN.trans {b : Nat} {w w' w'' : World} (h : cN b w w') (k : cN b w' w'') : cN b w w'' :=
 ⟨k.os.trans h.os, k.tape.trans h.tape, k.output.trans h.output, k.size.trans h.size, fun i hi => (k.block i hi).trans (h.block i hi)⟩
theorem cN.drew {b : Nat} {w w' : World} (h : cN b w w') : cN b w w'.drew := ⟨h.os, h.tape, h.output, h.size, h.block⟩
theorem cN.drewN {b : Nat} {w w' : World} (h : cN b w w') (n : Nat) : cN b w (w'.drewN n) := ⟨h.os, h.tape, h.output, h.size, h.block⟩
theorem cN.set {b : Nat} {w w' : World} (h : cN b w w') (o : Nat) (v : Value) : cN b w (w'.setCell ⟨b, o, none⟩ v) :=
 h.trans ⟨rfl, rfl, rfl, by simp [World.setCell], fun k hk => Below.heap_setCell _ _ _ _ hk⟩
theorem cN.below {b B : Nat} {w w' : World} (h : cN b w w') (hB : B ≤ b) : Below B w w' :=
 ⟨h.os, h.tape, h.output, by rw [h.size]; exact Nat.le_refl _, fun k hk => h.block k (by omega)⟩
theorem cN.cell {b : Nat} {w w' : World} (h : cN b w w') {p : Addr} (hp : p.block ≠ b) : w'.cell? p = w.cell? p := World.cell?_of_block (w := w) (h.block p.block hp)
theorem cN.row {b c off : Nat} {xs : List Nat} {w w' : World} (h : cN b w w') (hc : c ≠ b) (hr : Row w c off xs) : Row w' c off xs :=
 fun i hi => (h.cell (p := ⟨c, off + i, none⟩) hc).trans (hr i hi)
theorem bdrewN {B n : Nat} {a w : World} (h : Below B a w) : Below B a (w.drewN n) := ⟨h.os, h.tape, h.output, h.size, h.block⟩
theorem drew2 (w : World) (a b : Nat) : (w.drewN a).drewN b = w.drewN (a + b) := World.drewN_drewN ..
theorem drew3 (w : World) (a b c : Nat) : ((w.drewN a).drewN b).drewN c = w.drewN (a + b + c) := by rw [drew2, drew2, Nat.add_assoc]
theorem Blk.lt {w : World} {b : Nat} {L : List Nat} (h : Blk w b L) : b < w.heap.size := let ⟨_, h⟩ := h; (Array.getElem?_eq_some_iff.1 h).1
theorem Blk.cell {w : World} {b : Nat} {L : List Nat} (h : Blk w b L) (i : Nat) (hi : i < L.length) : w.cell? ⟨b, i, none⟩ = some (u (L[i]?.getD 0)) := by
 obtain ⟨T, h⟩ := h
 simp only [World.cell?, h]
 simp [hi, List.getElem?_append_left]
theorem Blk.frozen {w : World} {b : Nat} {L : List Nat} (h : Blk w b L) (i : Nat) : w.frozen? ⟨b, i, none⟩ = false := by
 obtain ⟨T, h⟩ := h
 simp only [World.frozen?, h]
 simp
theorem Blk.set {w : World} {b : Nat} {L : List Nat} (h : Blk w b L) (i v : Nat) (hi : i < L.length) : Blk (w.setCell ⟨b, i, none⟩ (u v)) b (L.set i v) := by
 obtain ⟨T, h⟩ := h
 refine ⟨T, ?_⟩
 simp only [World.setCell, Array.getElem?_modify]
 simp [h, List.map_set, List.set_append_left, hi]
theorem Blk.of_block {w w' : World} {b : Nat} {L : List Nat} (h : Blk w b L) (hb : w'.heap[b]? = w.heap[b]?) : Blk w' b L := let ⟨T, h⟩ := h; ⟨T, by rw [hb, h]⟩
theorem Blk.drew {w : World} {b : Nat} {L : List Nat} (h : Blk w b L) : Blk w.drew b L := h
theorem Blk.below {w w' : World} {b B : Nat} {L : List Nat} (h : Blk w b L) (hb : Below B w w') (hB : b < B) : Blk w' b L := h.of_block (hb.block b hB)
theorem Blk.only {w w' : World} {b c : Nat} {L : List Nat} (h : Blk w b L) (hb : cN c w w') (hc : b ≠ c) : Blk w' b L := h.of_block (hb.block b hc)
theorem Blk.row {w : World} {b : Nat} {L : List Nat} (h : Blk w b L) (off n : Nat) (hn : off + n ≤ L.length) : Row w b off ((L.drop off).take n) := by
 intro i hi
 simp only [List.length_take, List.length_drop] at hi
 rw [h.cell (off + i) (by omega)]
 congr 2
 rw [List.getElem?_take, if_pos (by omega), List.getElem?_drop]
theorem Row.below {w w' : World} {b off B : Nat} {xs : List Nat} (h : Row w b off xs) (hb : Below B w w') (hB : b < B) : Row w' b off xs :=
 fun i hi => (hb.cell (p := ⟨b, off + i, none⟩) hB).trans (h i hi)
theorem Row.lt {w : World} {b off : Nat} {xs : List Nat} (h : Row w b off xs) (hn : 0 < xs.length) : b < w.heap.size := World.block_lt_of_cell? w _ (h 0 hn)
def Typed (w : World) (v : Value) : Prop := ∀ a n c, v = .slice (some a) n c → 0 < n → ∃ cs fr, w.heap[a.block]? = some (.cells cs 23 fr)
theorem Typed.below {w w' : World} {B : Nat} {v : Value} (h : Typed w v) (hb : Below B w w') (hB : w.heap.size ≤ B) : Typed w' v := by
 intro a n c e hn
 obtain ⟨cs, fr, hc⟩ := h a n c e hn
 exact ⟨cs, fr, (hb.block a.block (Nat.lt_of_lt_of_le (Array.getElem?_eq_some_iff.1 hc).1 hB)).trans hc⟩
structure Sl (w : World) (v : Value) (xs : List Nat) : Prop where
 form : ∃ ao cap, v = .slice ao xs.length cap ∧ xs.length ≤ cap ∧ cap ≤ maxLen ∧ (0 < xs.length → ∃ b off, ao = some ⟨b, off, none⟩ ∧ Row w b off xs)
 ok : Ok xs
 typ : Typed w v
theorem Sl.below {w w' : World} {B : Nat} {v : Value} {xs : List Nat} (h : Sl w v xs) (hb : Below B w w') (hB : w.heap.size ≤ B) : Sl w' v xs := by
 obtain ⟨⟨ao, cap, hv, h1, h2, h3⟩, hok, ht⟩ := h
 refine ⟨⟨ao, cap, hv, h1, h2, fun hn => ?_⟩, hok, ht.below hb hB⟩
 obtain ⟨b, off, ha, hr⟩ := h3 hn
 exact ⟨b, off, ha, hr.below hb (Nat.lt_of_lt_of_le (hr.lt hn) hB)⟩
theorem Sl.nil (w : World) : Sl w (.slice none 0 0) [] := ⟨⟨none, 0, rfl, Nat.le_refl _, by unfold maxLen; omega, fun h => absurd h (by simp)⟩, Ok.nil, fun a n c e _ => by cases e⟩
theorem Blk.new (w : World) (L : List Nat) : Blk (w.alloc (.cells (L.map u).toArray 23)) w.heap.size L := by
 refine ⟨[], ?_⟩
 show (w.heap.push _)[w.heap.size]? = _
 simp
theorem Blk.of_owned {w : World} {base n : Nat} {v : Value} {xs : List Nat} (h : w.ownsRow base 23 1 v n (xs.map u)) (hv : v ≠ .slice none 0 0) :
 ∃ b cap, v = .slice (some ⟨b, 0, none⟩) n cap ∧ base ≤ b ∧ Blk w b xs ∧ xs.length = n ∧ n ≤ cap ∧ cap ≤ maxLen := by
 obtain ⟨h1, ⟨h2, _⟩ | ⟨g, cap, cur, rfl, hb, hg, hn, hm, hs, ht⟩⟩ := h
 · exact absurd h2 hv
 · refine ⟨g, cap, rfl, hb, ⟨cur.toList.drop (n * 1), ?_⟩, by simpa using h1, hn, hm⟩
   rw [hg, ← ht, List.take_append_drop]
theorem Sl.of_blk {w : World} {b : Nat} {L : List Nat} (h : Blk w b L) (ok : Ok L) (off n cap : Nat) (hn : off + n ≤ L.length) (hc : n ≤ cap) (hm : cap ≤ maxLen) :
 Sl w (.slice (some ⟨b, off, none⟩) n cap) ((L.drop off).take n) := by
 have hl : ((L.drop off).take n).length = n := by rw [List.length_take, List.length_drop]; omega
 refine ⟨⟨some ⟨b, off, none⟩, cap, by rw [hl], by rw [hl]; exact hc, hm, fun _ => ⟨b, off, rfl, h.row off n hn⟩⟩, (ok.drop _).take _, fun a n' c e _ => by
  injection e with e
  injection e with e
  subst e
  obtain ⟨T, hT⟩ := h
  exact ⟨_, _, hT⟩⟩
def co (w : World) (v : Value) (n : Nat) : Prop := ∃ xs, Sl w v xs ∧ Trim xs ∧ val xs = n
theorem co.below {w w' : World} {B n : Nat} {v : Value} (h : co w v n) (hb : Below B w w') (hB : w.heap.size ≤ B) : co w' v n := by
 obtain ⟨xs, h1, h2, h3⟩ := h
 exact ⟨xs, h1.below hb hB, h2, h3⟩
theorem co.len {n : Nat} {xs : List Nat} (h2 : Trim xs) (h3 : val xs = n) {k : Nat} (hk : n < B ^ k) : xs.length ≤ k := by
 rcases xs with _ | ⟨x, xs⟩
 · simp
 · have h1 := je h2 (by simp)
   rw [h3] at h1
   have h4 : B ^ ((x :: xs).length - 1) < B ^ k := by omega
   have := (Nat.pow_lt_pow_iff_right (show 1 < B by decide)).1 h4
   simp at this ⊢
   omega
def NatNew (w : World) (n : Nat) (e : Ending) (w' : World) : Prop := ∃ v, e = .returned v ∧ co w' v n ∧ Below w.heap.size w w'
def sumLo (x y : Nat) : Nat := (x + y) % B
def sumHi (x y : Nat) : Nat := (x + y) / B
def difLo (x y : Nat) : Nat := (x + B - y) % B
def difHi (x y : Nat) : Nat := if x < y then 1 else 0
def cL (x y : Nat) : Nat := x * y % B
def ja (x y : Nat) : Nat := x * y / B
theorem sum_eq (x y : Nat) : sumLo x y + B * sumHi x y = x + y := by unfold sumLo sumHi; have := Nat.div_add_mod (x + y) B; omega
theorem sumLo_lt (x y : Nat) : sumLo x y < B := Nat.mod_lt _ cO
theorem sumHi_le {x y : Nat} (hx : x < B) (hy : y < B) : sumHi x y ≤ 1 := by
 unfold sumHi
 have : (x + y) / B < 2 := Nat.div_lt_of_lt_mul (by omega)
 omega
theorem dif_eq {x y : Nat} (hx : x < B) (hy : y < B) : difLo x y + y = x + B * difHi x y := by
 unfold difLo difHi
 split
 · rw [Nat.mod_eq_of_lt (by omega)]; omega
 · rw [show x + B - y = x - y + B from by omega, Nat.add_mod_right, Nat.mod_eq_of_lt (by omega)]; omega
theorem difLo_lt (x y : Nat) : difLo x y < B := Nat.mod_lt _ cO
theorem difHi_le (x y : Nat) : difHi x y ≤ 1 := by unfold difHi; split <;> omega
theorem prod_eq (x y : Nat) : cL x y + B * ja x y = x * y := by unfold cL ja; have := Nat.div_add_mod (x * y) B; omega
theorem prodLo_lt (x y : Nat) : cL x y < B := Nat.mod_lt _ cO
theorem cP {x : Nat} (h : x < B) : IntKind.u64.wrap (x : Int) = (x : Int) := by
 rw [IntKind.wrap_u64]
 unfold B at h
 omega
theorem wrap_add {x y : Nat} (h : x + y < B) : IntKind.u64.wrap ((x : Int) + (y : Int)) = ((x + y : Nat) : Int) := by
 rw [show ((x : Int) + (y : Int)) = ((x + y : Nat) : Int) from by omega, cP h]
theorem wrap_add3 {x y z : Nat} (h : x + y + z < B) : IntKind.u64.wrap (IntKind.u64.wrap ((x : Int) + (y : Int)) + (z : Int)) = ((x + y + z : Nat) : Int) := by
 rw [wrap_add (x := x) (y := y) (by omega), wrap_add h]
theorem wrap_sub {x y : Nat} (hx : x < B) (h : y ≤ x) : IntKind.u64.wrap ((x : Int) - (y : Int)) = ((x - y : Nat) : Int) := by
 rw [show ((x : Int) - (y : Int)) = ((x - y : Nat) : Int) from by omega, cP (by omega)]
open Go Go.RowKit Go.Proofs Lim
theorem B_eq : B = 2 ^ 64 := by decide
def lz (y : Nat) : Nat := 64 - Lib.bitLen y
theorem bitLen_le64 {y : Nat} (hy : y < B) : Lib.bitLen y ≤ 64 := by
 have := Any.bitLen_le64 (y : Int) (by omega) (by unfold B at hy; omega)
 simpa using this
theorem lz_any (y : Nat) (hy : y < B) (w : World) : Calls Tryz.prog 153 #[u y] w fun e w' => e = .returned (.int .i64 (lz y : Nat)) ∧ w = w' := by
 refine (Tryz.bits_LeadingZeros64 y w (by omega) (by unfold B at hy; omega)).mono ?_
 rintro e w' ⟨rfl, rfl⟩
 refine ⟨?_, rfl⟩
 have h := bitLen_le64 hy
 unfold lz
 rw [Int.toNat_natCast, show (64 - (Lib.bitLen y : Int)) = ((64 - Lib.bitLen y : Nat) : Int) from by omega]
theorem bitLenAux_spec : ∀ (f x : Nat), x < 2 ^ f → x < 2 ^ Lib.bitLenAux f x ∧ (x ≠ 0 → 2 ^ (Lib.bitLenAux f x - 1) ≤ x)
 | 0, x, h => by
  have : x = 0 := by simpa using h
  subst this; simp [Lib.bitLenAux]
 | f + 1, x, h => by
  unfold Lib.bitLenAux
  split
  · rename_i h0; subst h0; simp
  · rename_i h0
    have hx : x / 2 < 2 ^ f := by rw [Nat.pow_succ] at h; omega
    obtain ⟨h1, h2⟩ := bitLenAux_spec f (x / 2) hx
    have hz : x / 2 = 0 → Lib.bitLenAux f (x / 2) = 0 := fun e => by rw [e]; cases f <;> simp [Lib.bitLenAux]
    generalize Lib.bitLenAux f (x / 2) = n at *
    refine ⟨by rw [Nat.add_comm, Nat.pow_succ]; omega, fun _ => ?_⟩
    rcases Nat.eq_zero_or_pos n with hn | hn
    · subst hn; simp; omega
    · have h3 := h2 (fun e => by have := hz e; omega)
      rw [show 1 + n - 1 = (n - 1) + 1 from by omega, Nat.pow_succ]
      omega
theorem bitLen_spec' {x : Nat} (h : x < B) : x < 2 ^ Lib.bitLen x ∧ (x ≠ 0 → 2 ^ (Lib.bitLen x - 1) ≤ x) := bitLenAux_spec 64 x (by rw [← B_eq]; exact h)
theorem lz_spec {y : Nat} (h0 : 0 < y) (hy : y < B) : lz y ≤ 63 ∧ y * 2 ^ lz y < B ∧ B ≤ 2 * (y * 2 ^ lz y) := by
 have h := bitLen_le64 hy
 obtain ⟨h1, h2⟩ := bitLen_spec' hy
 have h3 := h2 (by omega)
 have hb : 1 ≤ Lib.bitLen y := by
  rcases Nat.eq_zero_or_pos (Lib.bitLen y) with e | e
  · rw [e] at h1; simp at h1; omega
  · exact e
 unfold lz
 generalize Lib.bitLen y = n at *
 have e1 : 2 ^ n * 2 ^ (64 - n) = B := by rw [← Nat.pow_add, B_eq]; congr 1; omega
 have e2 : 2 * 2 ^ (n - 1) = 2 ^ n := by rw [Nat.mul_comm, ← Nat.pow_succ]; congr 1; omega
 have hp : 0 < 2 ^ (64 - n) := Nat.pow_pos (by omega)
 refine ⟨by omega, ?_, ?_⟩
 · rw [← e1]; exact (Nat.mul_lt_mul_right hp).2 h1
 · rw [← e1, ← e2, Nat.mul_assoc]
   exact Nat.mul_le_mul_left _ (Nat.mul_le_mul_right _ h3)
theorem shl_split (x s : Nat) (hs : s ≤ 64) : x * 2 ^ s = x / 2 ^ (64 - s) * B + x * 2 ^ s % B := by
 have e1 : 2 ^ (64 - s) * 2 ^ s = B := by rw [← Nat.pow_add, B_eq]; congr 1; omega
 have h := Nat.div_add_mod (x * 2 ^ s) B
 have e2 : x * 2 ^ s / B = x / 2 ^ (64 - s) := by rw [← e1, Nat.mul_div_mul_right _ _ (Nat.pow_pos (by omega))]
 rw [e2] at h
 rw [Nat.mul_comm (x / 2 ^ (64 - s)) B]
 omega
theorem shr_lt {x s : Nat} (hx : x < B) (hs : s ≤ 64) : x / 2 ^ (64 - s) < 2 ^ s := by
 have e1 : 2 ^ (64 - s) * 2 ^ s = B := by rw [← Nat.pow_add, B_eq]; congr 1; omega
 exact Nat.div_lt_of_lt_mul (by omega)
theorem wrap_shl (x s : Nat) : IntKind.u64.wrap ((x : Int) * 2 ^ s) = ((x * 2 ^ s % B : Nat) : Int) := by
 rw [IntKind.wrap_u64]
 unfold B
 rw [Int.natCast_emod, Int.natCast_mul, Int.natCast_pow]
 rfl
theorem div_pow (x s : Nat) : (x : Int) / 2 ^ s = ((x / 2 ^ s : Nat) : Int) := by
 rw [Int.natCast_ediv, Int.natCast_pow]; rfl
theorem or_add {a b s : Nat} (hb : b < 2 ^ s) (h : a * 2 ^ s + b < B) : bits .or .u64 ((a * 2 ^ s : Nat) : Int) (b : Int) = ((a * 2 ^ s + b : Nat) : Int) := by
 rw [bits_or_u64_nat _ _ (by unfold B at h; omega) (by unfold B at h; omega)]
 congr 1
 rw [← Nat.shiftLeft_eq, Nat.shiftLeft_add_eq_or_of_lt hb]
theorem or_add' {a b s : Nat} (hb : b < 2 ^ s) (h : a * 2 ^ s + b < B) : bits .or .u64 (b : Int) ((a * 2 ^ s : Nat) : Int) = ((a * 2 ^ s + b : Nat) : Int) := by
 rw [bits_or_u64_nat _ _ (by unfold B at h; omega) (by unfold B at h; omega)]
 congr 1
 rw [Nat.or_comm, ← Nat.shiftLeft_eq, Nat.shiftLeft_add_eq_or_of_lt hb]
def H : Nat := 4294967296
theorem HH : H * H = B := by decide
theorem H_pos : 0 < H := by decide
theorem and_half {x : Nat} (h : x < B) : bits .and .u64 (x : Int) 4294967295 = ((x % H : Nat) : Int) := by
 rw [and_low32 _ (by omega) (by unfold B at h; omega)]
 unfold H
 omega
theorem div_half (x : Nat) : (x : Int) / 4294967296 = ((x / H : Nat) : Int) := by unfold H; omega
open Go Go.RowKit Go.Proofs Lim
def tz (x : Nat) : Nat := Lib.ctz 64 x
theorem tz_spec {x : Nat} (h0 : 0 < x) (hx : x < B) : (∃ m, x = 2 ^ tz x * (2 * m + 1)) ∧ tz x < 64 := by
 obtain ⟨m, hm, hk⟩ := Lib.ctzFrom_spec 64 x h0 (by rw [← B_eq]; exact hx)
 have e : tz x = Lib.ctzFrom 64 x := by unfold tz Lib.ctz; rw [if_neg (by omega)]
 rw [e]
 exact ⟨⟨m, hm⟩, hk⟩
theorem pow_dvd_iff {x a m k : Nat} (h : x = 2 ^ a * (2 * m + 1)) : 2 ^ k ∣ x ↔ k ≤ a := by
 constructor
 · intro hd
   rcases Nat.lt_or_ge a k with hlt | hge
   · exfalso
     have h1 : 2 ^ (a + 1) ∣ 2 ^ k := Nat.pow_dvd_pow 2 hlt
     have h2 : 2 ^ (a + 1) ∣ x := Nat.dvd_trans h1 hd
     rw [h, Nat.pow_succ] at h2
     have h3 : 2 ∣ 2 * m + 1 := Nat.dvd_of_mul_dvd_mul_left (Nat.pow_pos (by omega)) h2
     omega
   · exact hge
 · intro hle
   rw [h]
   exact Nat.dvd_mul_right_of_dvd (Nat.pow_dvd_pow 2 hle) _
theorem pow_dvd_or (k x y : Nat) : 2 ^ k ∣ x ||| y ↔ 2 ^ k ∣ x ∧ 2 ^ k ∣ y := by
 rw [Nat.dvd_iff_mod_eq_zero, Nat.dvd_iff_mod_eq_zero, Nat.dvd_iff_mod_eq_zero, Nat.or_mod_two_pow, Nat.or_eq_zero_iff]
theorem or_lt {x y : Nat} (hx : x < B) (hy : y < B) : x ||| y < B := by
 rw [B_eq] at *
 exact Nat.or_lt_two_pow hx hy
theorem tz_or {x y : Nat} (h0 : 0 < x) (hx : x < B) (k0 : 0 < y) (hy : y < B) : tz (x ||| y) = min (tz x) (tz y) := by
 obtain ⟨⟨m, hm⟩, _⟩ := tz_spec h0 hx
 obtain ⟨⟨n, hn⟩, _⟩ := tz_spec k0 hy
 have hor0 : 0 < x ||| y := by
  rcases Nat.eq_zero_or_pos (x ||| y) with h | h
  · rw [Nat.or_eq_zero_iff] at h; omega
  · exact h
 obtain ⟨⟨p, hp⟩, _⟩ := tz_spec hor0 (or_lt hx hy)
 have h1 := (pow_dvd_or (tz (x ||| y)) x y).1 ((pow_dvd_iff hp).2 (Nat.le_refl _))
 have h2 := (pow_dvd_iff hm).1 h1.1
 have h3 := (pow_dvd_iff hn).1 h1.2
 have h4 := (pow_dvd_iff hp).1 ((pow_dvd_or (min (tz x) (tz y)) x y).2 ⟨(pow_dvd_iff hm).2 (Nat.min_le_left _ _), (pow_dvd_iff hn).2 (Nat.min_le_right _ _)⟩)
 omega
theorem gcd_odd (m b z : Nat) : Nat.gcd (2 * m + 1) (2 ^ b * z) = Nat.gcd (2 * m + 1) z := by
 have h : Nat.Coprime (2 ^ b) (2 * m + 1) := by
  refine Nat.Coprime.pow_left b ?_
  show Nat.gcd 2 (2 * m + 1) = 1
  rw [Nat.gcd_rec, Nat.mul_add_mod]
  rfl
 exact Nat.Coprime.gcd_mul_left_cancel_right z h
theorem gcd_split (a b m n : Nat) : Nat.gcd (2 ^ a * (2 * m + 1)) (2 ^ b * (2 * n + 1)) = Nat.gcd (2 * m + 1) (2 * n + 1) * 2 ^ min a b := by
 rcases Nat.le_total a b with h | h
 · rw [Nat.min_eq_left h, show 2 ^ b = 2 ^ a * 2 ^ (b - a) from by rw [← Nat.pow_add]; congr 1; omega, Nat.mul_assoc, Nat.gcd_mul_left, gcd_odd, Nat.mul_comm]
 · rw [Nat.min_eq_right h, show 2 ^ a = 2 ^ b * 2 ^ (a - b) from by rw [← Nat.pow_add]; congr 1; omega, Nat.mul_assoc, Nat.gcd_mul_left, Nat.gcd_comm, gcd_odd, Nat.gcd_comm, Nat.mul_comm]
structure Gr (w : World) : Prop where
 size : 8 ≤ w.heap.size
 tab : TabAt 1 Lib.deBruijn64tab w
 maxLen : ∃ m, w.cell? ⟨0, 0, none⟩ = some (.int .i64 m)
 syn : ∃ tp p, w.cell? ⟨2, 0, none⟩ = some (.iface tp p)
 rng : ∃ tp p, w.cell? ⟨3, 0, none⟩ = some (.iface tp p)
theorem Gr.below {w w' : World} {K : Nat} (h : Gr w) (hb : Below K w w') (hK : 8 ≤ K) : Gr w' := by
 obtain ⟨h1, h2, ⟨m, h3⟩, ⟨t1, p1, h4⟩, ⟨t2, p2, h5⟩⟩ := h
 refine ⟨Nat.le_trans h1 hb.size, fun j hj => ?_, ⟨m, ?_⟩, ⟨t1, p1, ?_⟩, ⟨t2, p2, ?_⟩⟩
 · rw [hb.cell (p := ⟨_, j, none⟩) (Nat.lt_of_lt_of_le (show (1 : Nat) < 8 by decide) hK)]; exact h2 j hj
 · rw [hb.cell (p := ⟨_, 0, none⟩) (Nat.lt_of_lt_of_le (show (0 : Nat) < 8 by decide) hK)]; exact h3
 · rw [hb.cell (p := ⟨_, 0, none⟩) (Nat.lt_of_lt_of_le (show (2 : Nat) < 8 by decide) hK)]; exact h4
 · rw [hb.cell (p := ⟨_, 0, none⟩) (Nat.lt_of_lt_of_le (show (3 : Nat) < 8 by decide) hK)]; exact h5
theorem tz_any (x : Nat) (hx : x < B) (w : World) (hG : Gr w) : Calls Tryz.prog 148 #[u x] w fun e w' => e = .returned (.int .i64 (tz x : Nat)) ∧ w = w' :=
 (Tryz.bits_TrailingZeros64 x hx w (fun _ => hG.tab)).mono fun _ _ ⟨h, h'⟩ => ⟨h, h'.symm⟩
theorem or_u64 {x y : Nat} (hx : x < B) (hy : y < B) : bits .or .u64 (x : Int) (y : Int) = ((x ||| y : Nat) : Int) :=
 bits_or_u64_nat _ _ (by unfold B at hx; omega) (by unfold B at hy; omega)
def od (x : Nat) : Nat := x / 2 ^ tz x
theorem od_spec {x : Nat} (h0 : 0 < x) (hx : x < B) : ∃ m, od x = 2 * m + 1 ∧ x = 2 ^ tz x * (2 * m + 1) := by
 obtain ⟨⟨m, hm⟩, _⟩ := tz_spec h0 hx
 refine ⟨m, ?_, hm⟩
 unfold od
 have hp : 0 < 2 ^ tz x := Nat.pow_pos (by omega)
 conv => lhs; rw [hm]
 generalize hk : tz x = k at *
 have : tz (2 ^ k * (2 * m + 1)) = k := by rw [← hm, hk]
 rw [this, Nat.mul_div_cancel_left _ hp]
theorem od_le (x : Nat) : od x ≤ x := Nat.div_le_self _ _
theorem gcd_od {x y : Nat} (h0 : 0 < x) (hx : x < B) (k0 : 0 < y) (hy : y < B) : Nat.gcd x y = Nat.gcd (od x) y * 2 ^ tz (x ||| y) := by
 obtain ⟨m, hm, ex⟩ := od_spec h0 hx
 obtain ⟨n, hn, ey⟩ := od_spec k0 hy
 rw [tz_or h0 hx k0 hy, hm]
 generalize tz x = a at *
 generalize tz y = b at *
 conv => lhs; rw [ex, ey]
 rw [gcd_split]
 conv => rhs; rw [ey, gcd_odd]
structure Odd (x y G : Nat) : Prop where
 odd : ∃ m, x = 2 * m + 1
 gcd : Nat.gcd x y = G
 lx : x < B
 ly : y < B
theorem Odd.step {x y G : Nat} (h : Odd x y G) (hy : 0 < y) : od y < B ∧ 0 < od y ∧ (x ≤ od y → Odd x (od y - x) G) ∧ (od y < x → Odd (od y) (x - od y) G) := by
 obtain ⟨⟨m, hm⟩, hg, lx, ly⟩ := h
 obtain ⟨n, hn, ey⟩ := od_spec hy ly
 have hle := od_le y
 have hgo : Nat.gcd x (od y) = G := by rw [← hg, hm, hn]; conv => rhs; rw [ey, gcd_odd]
 refine ⟨by omega, by omega, fun h => ⟨⟨m, hm⟩, ?_, lx, by omega⟩, fun h => ⟨⟨n, hn⟩, ?_, by omega, by omega⟩⟩
 · rw [Nat.gcd_sub_self_right h]; exact hgo
 · rw [Nat.gcd_sub_self_right (by omega), Nat.gcd_comm]; exact hgo
theorem gcd_lt {x y : Nat} (hx : x < B) (hy : y < B) : Nat.gcd x y < B := by
 rcases Nat.eq_zero_or_pos x with h | h
 · subst h; rw [Nat.gcd_zero_left]; exact hy
 · exact Nat.lt_of_le_of_lt (Nat.gcd_le_left y h) hx
theorem commonWord_zero (x y : Nat) (hx : x < B) (hy : y < B) (w : World) (h : x = 0 ∨ y = 0) :
 Calls Tryz.prog 128 #[u x, u y] w fun e w' => e = .returned (u (Nat.gcd x y)) ∧ w = w' := by
 have e0 := or_u64 hx hy
 have e1 : x ||| y = Nat.gcd x y := by
  rcases h with h | h
  · subst h; simp
  · subst h; simp
 rw [e1] at e0
 generalize hg : Nat.gcd x y = g at *
 clear e1 hg
 by_cases h0 : x = 0
 · have hb : (((x : Nat) : Int) == 0) = true := by subst h0; rfl
   clear h h0
   go_enter Tryz.func128, Tryz.ntmps128
   go_wp2_with fail
   go_ret
   exact ⟨rfl, rfl⟩
 · have hb : (((x : Nat) : Int) == 0) = false := by rw [beq_eq_false_iff_ne]; omega
   have hb2 : (((y : Nat) : Int) == 0) = true := by rcases h with h | h; exact absurd h h0; subst h; rfl
   clear h h0
   go_enter Tryz.func128, Tryz.ntmps128
   go_wp2_with fail
   go_ret
   exact ⟨rfl, rfl⟩
theorem commonWord_pos (x y : Nat) (n1 : ¬ x = 1) (n2 : ¬ y = 1) (h0 : 0 < x) (hx : x < B) (k0 : 0 < y) (hy : y < B) (w : World) (hG : Gr w) :
 Calls Tryz.prog 128 #[u x, u y] w fun e w' => e = .returned (u (Nat.gcd x y)) ∧ w = w' := by
 have hb1 : (((x : Nat) : Int) == 0) = false := by rw [beq_eq_false_iff_ne]; omega
 have hb2 : (((y : Nat) : Int) == 0) = false := by rw [beq_eq_false_iff_ne]; omega
 have hb3 : (((x : Nat) : Int) == 1) = false := by rw [beq_eq_false_iff_ne]; omega
 have hb4 : (((y : Nat) : Int) == 1) = false := by rw [beq_eq_false_iff_ne]; omega
 clear n1 n2
 have e0 := or_u64 hx hy
 have hor := or_lt hx hy
 have hgo := gcd_od h0 hx k0 hy
 have hod := od_spec h0 hx
 have htl : tz (x ||| y) < 64 := (tz_spec (by
  rcases Nat.eq_zero_or_pos (x ||| y) with h | h
  · rw [Nat.or_eq_zero_iff] at h; omega
  · exact h) hor).2
 have htx : tz x < 64 := (tz_spec h0 hx).2
 have ex := div_pow x (tz x)
 rw [show x / 2 ^ tz x = od x from rfl] at ex
 have hgl : Nat.gcd x y < B := gcd_lt hx hy
 obtain ⟨G, hGd⟩ : ∃ G, G = Nat.gcd (od x) y := ⟨_, rfl⟩
 have hO : Odd (od x) y G := ⟨let ⟨m, h, _⟩ := hod; ⟨m, h⟩, hGd.symm, Nat.lt_of_le_of_lt (od_le x) hx, hy⟩
 rw [← hGd] at hgo
 generalize x ||| y = z at *
 have htl0 : (0 : Int) ≤ ((tz z : Nat) : Int) := by omega
 have htx0 : (0 : Int) ≤ ((tz x : Nat) : Int) := by omega
 have HO := Lib.hid hO
 have HG := Lib.hid hG
 have Hgo := Lib.hid hgo
 have Hgl := Lib.hid hgl
 have Hy := Lib.hid hy
 have Hx := Lib.hid hx
 have Hor := Lib.hid hor
 clear hO hG hgo hod hGd hgl
 generalize hgg : Nat.gcd x y = gg at *
 clear hgg
 go_enter Tryz.func128, Tryz.ntmps128
 go_wp2_with fail
 refine (tz_any z Hor.out w HG.out).mono ?_
 rintro e w' ⟨rfl, rfl⟩
 go_wp2_with fail
 refine (tz_any x Hx.out w HG.out).mono ?_
 rintro e w' ⟨rfl, rfl⟩
 go_wp2_with fail
 go_loop [0, 1] (fun s0 s1 => ∃ X Y : Nat, s0 = u X ∧ s1 = u Y ∧ Hid (Odd X Y G)) (fun s0 s1 => (intOf s0 + intOf s1).toNat)
 case atStart => exact ⟨od x, y, rfl, rfl, HO.out⟩
 case round =>
  clear HO
  obtain ⟨X, Y, rfl, rfl, hXY⟩ := hrel
  by_cases hY : Y = 0
  · have hb : (((Y : Nat) : Int) != 0) = false := by subst hY; rfl
    have hXG : X = G := by have := hXY.out.gcd; subst hY; rw [Nat.gcd_zero_right] at this; exact this
    have e3 : IntKind.u64.wrap ((X : Int) * 2 ^ tz z) = ((gg : Nat) : Int) := by
     rw [wrap_shl, hXG, ← Hgo.out, Nat.mod_eq_of_lt Hgl.out]
    clear hY hXG
    go_wp2_with fail
    go_ret
    exact ⟨rfl, rfl⟩
  · have hb : (((Y : Nat) : Int) != 0) = true := by rw [bne_iff_ne]; omega
    obtain ⟨s1, s2, s3, s4⟩ := hXY.out.step (by omega)
    have hYB : Y < B := hXY.out.ly
    have hX1 : 0 < X := by obtain ⟨m, hm⟩ := hXY.out.odd; omega
    have htY : tz Y < 64 := (tz_spec (by omega) hYB).2
    have htY0 : (0 : Int) ≤ ((tz Y : Nat) : Int) := by omega
    have eY := div_pow Y (tz Y)
    rw [show Y / 2 ^ tz Y = od Y from rfl] at eY
    have hole := od_le Y
    generalize hoy : od Y = oy at *
    have S3 := Lib.hid s3
    have S4 := Lib.hid s4
    have hXB := hXY.out.lx
    clear s3 s4 hoy hY
    by_cases hgt : oy < X
    · have ew : IntKind.u64.wrap ((X : Int) - (oy : Int)) = ((X - oy : Nat) : Int) := wrap_sub hXB (by omega)
      obtain ⟨dd, hdd⟩ : ∃ dd, dd = X - oy := ⟨_, rfl⟩
      rw [← hdd] at ew
      have HDD := Lib.hid hdd
      clear hdd
      go_wp2_with (go_at_call 148; refine (tz_any Y hYB w HG.out).mono ?_; rintro e w' ⟨rfl, rfl⟩)
      go_round
      case rel => exact ⟨oy, dd, rfl, rfl, by rw [HDD.out]; exact S4.out hgt⟩
      case measure => simp [intOf]; have := HDD.out; omega
    · have ew : IntKind.u64.wrap ((oy : Int) - (X : Int)) = ((oy - X : Nat) : Int) := wrap_sub s1 (by omega)
      obtain ⟨dd, hdd⟩ : ∃ dd, dd = oy - X := ⟨_, rfl⟩
      rw [← hdd] at ew
      have HDD := Lib.hid hdd
      clear hdd
      go_wp2_with (go_at_call 148; refine (tz_any Y hYB w HG.out).mono ?_; rintro e w' ⟨rfl, rfl⟩)
      go_round
      case rel => exact ⟨X, dd, rfl, rfl, by rw [HDD.out]; exact S3.out (by omega)⟩
      case measure => simp [intOf]; have := HDD.out; omega
theorem commonWord_one (x y : Nat) (h0 : 0 < x) (k0 : 0 < y) (h : x = 1 ∨ y = 1) (w : World) :
 Calls Tryz.prog 128 #[u x, u y] w fun e w' => e = .returned (u (Nat.gcd x y)) ∧ w = w' := by
 have e1 : Nat.gcd x y = 1 := by
  rcases h with h | h
  · subst h; simp
  · subst h; simp
 rw [e1]
 have hb1 : (((x : Nat) : Int) == 0) = false := by rw [beq_eq_false_iff_ne]; omega
 have hb2 : (((y : Nat) : Int) == 0) = false := by rw [beq_eq_false_iff_ne]; omega
 clear e1
 by_cases h1 : x = 1
 · have hb3 : (((x : Nat) : Int) == 1) = true := by subst h1; rfl
   clear h h1
   go_enter Tryz.func128, Tryz.ntmps128
   go_wp2_with fail
   go_ret
   exact ⟨rfl, rfl⟩
 · have h2 : y = 1 := by omega
   have hb3 : (((x : Nat) : Int) == 1) = false := by rw [beq_eq_false_iff_ne]; omega
   have hb4 : (((y : Nat) : Int) == 1) = true := by subst h2; rfl
   clear h h1 h2
   go_enter Tryz.func128, Tryz.ntmps128
   go_wp2_with fail
   go_ret
   exact ⟨rfl, rfl⟩
theorem commonWord_any (x y : Nat) (hx : x < B) (hy : y < B) (w : World) (hG : Gr w) :
 Calls Tryz.prog 128 #[u x, u y] w fun e w' => e = .returned (u (Nat.gcd x y)) ∧ w = w' := by
 rcases Nat.eq_zero_or_pos x with h | h
 · exact commonWord_zero x y hx hy w (.inl h)
 · rcases Nat.eq_zero_or_pos y with h' | h'
   · exact commonWord_zero x y hx hy w (.inr h')
   · by_cases n1 : x = 1
     · exact commonWord_one x y h h' (.inl n1) w
     · by_cases n2 : y = 1
       · exact commonWord_one x y h h' (.inr n2) w
       · exact commonWord_pos x y n1 n2 h hx h' hy w hG
open Go Go.RowKit Go.Proofs Lim
open Go.ChangeShapes Go.WideShapes Go.ChangeAt
theorem own : ownKnob Tryz.prog.godebug = none := by kernel_rfl
theorem gTab : Tryz.prog.globalNamed "math/bits.deBruijn64tab" = some 1 := by kernel_rfl
theorem gSyn : Tryz.prog.globalNamed "strconv.ErrSyntax" = some 2 := by kernel_rfl
theorem gRng : Tryz.prog.globalNamed "strconv.ErrRange" = some 3 := by kernel_rfl
theorem tTab : (Tryz.prog.globals[1]?).bind (fun g => Tryz.prog.underlying g.type) = some (.array 64 5) := by kernel_rfl
theorem cTab : (Tryz.prog.globals[1]?).map (fun g => Tryz.prog.cellsOf g.type) = some 64 := by kernel_rfl
theorem c8 : Tryz.prog.cellsOf 5 = 1 := by kernel_rfl
theorem tSyn : (Tryz.prog.globals[2]?).map (·.type) = some 141 := by kernel_rfl
theorem tRng : (Tryz.prog.globals[3]?).map (·.type) = some 141 := by kernel_rfl
theorem uErr : ∃ ms, Tryz.prog.underlying 141 = some (.interface ms) := ⟨_, Tryz.underlying141⟩
theorem laid_parts {W : World} (h : laidMetH Tryz.prog Rows.exactReadsRow.laid W) : ∃ ps, DataW.LaidVars Tryz.prog W Rows.exactReadsRow.laid ps := by
 have h' : laidMet Tryz.prog Rows.exactReadsRow.laid W := h
 obtain ⟨ps, h1, _⟩ := h'
 exact ⟨ps, h1⟩
set_option maxRecDepth 100000 in
theorem gr_of_laid {W : World} (h : laidMetH Tryz.prog Rows.exactReadsRow.laid W) (hs : W.ShapedOpen Tryz.prog) : Gr W := by
 obtain ⟨ps, ⟨_, _, _, _, _, _, _, _, _, _, ⟨g1, t1, cs1, f1, p1, q1, hg1, ht1, hv1, hd1, ⟨_, _, _, _, _, _, _, _, _, _, ⟨g3, t3, cs3, f3, p3, q3, hg3, ht3, hv3, hd3, ⟨g4, t4, cs4, f4, p4, q4, hg4, ht4, hv4, hd4, _, _⟩, _⟩, _⟩, _⟩, _⟩⟩ := laid_parts h
 obtain rfl := Option.some.inj (gTab.symm.trans hg1)
 obtain rfl := Option.some.inj (gRng.symm.trans hg3)
 obtain rfl := Option.some.inj (gSyn.symm.trans hg4)
 obtain ⟨ms, hi⟩ := uErr
 refine ⟨?_, ?_, ?_, ?_, ?_⟩
 · have h0 : ((begin Tryz.prog (fun _ _ => 0) default).world.heap[(7 : Nat)]?).bind Obj.row? ≠ none := by
    intro h
    have : (((begin Tryz.prog (fun _ _ => 0) default).world.heap[(7 : Nat)]?).bind Obj.row?).isSome = true := by kernel_rfl
    rw [h] at this
    cases this
   cases hh : ((begin Tryz.prog (fun _ _ => 0) default).world.heap[(7 : Nat)]?).bind Obj.row? with
   | none => exact absurd hh h0
   | some x =>
    obtain ⟨cs, hc, _⟩ := hs.1 7 x.1 x.2 (by decide) hh
    exact (Array.getElem?_eq_some_iff.1 hc).1
 · have ht : Tryz.prog.underlying t1 = some (.array 64 5) := by
    have := tTab
    cases hx : Tryz.prog.globals[1]? with
    | none => rw [hx] at ht1; cases ht1
    | some g => rw [hx] at this ht1; cases ht1; exact this
   have hc : Tryz.prog.cellsOf t1 = 64 := by
    have := cTab
    cases hx : Tryz.prog.globals[1]? with
    | none => rw [hx] at ht1; cases ht1
    | some g => rw [hx] at this ht1; cases ht1; exact Option.some.inj this
   have hcs := Lib.cells_of_tab (zs := Lib.deBruijn64tab.map Int.ofNat) (k := .u8) ht Tryz.underlying5 c8 hc hd1
   have hv : Lib.TabIs Tryz.prog W "math/bits.deBruijn64tab" .u8 (Lib.deBruijn64tab.map Int.ofNat) := by
    unfold Lib.TabIs
    rw [hv1, ← hcs]
   intro j hj
   have := hv.cell gTab j (by simpa using hj)
   rw [this]
   simp [List.getD, List.getElem?_map, hj]
 · exact cell_of_shapedOpen_int (t := 3) (zero := #[.int .i64 0]) hs (by decide) (by kernel_rfl) rfl (by kernel_rfl) (by kernel_rfl) Tryz.underlying3
 · obtain rfl := Option.some.inj (tSyn.symm.trans ht4)
   obtain ⟨f', u, v, hc, _⟩ := iface_of_trod hi hd4
   refine ⟨u, v, ?_⟩
   have := World.var?_cell gSyn hv4 0
   rw [Array.eq_one_of_toList hc] at this
   simpa using this
 · obtain rfl := Option.some.inj (tRng.symm.trans ht3)
   obtain ⟨f', u, v, hc, _⟩ := iface_of_trod hi hd3
   refine ⟨u, v, ?_⟩
   have := World.var?_cell gRng hv3 0
   rw [Array.eq_one_of_toList hc] at this
   simpa using this
theorem door_met (os : Os) (args : Array Value) : laidMetH Tryz.prog Rows.exactReadsRow.laid ((World.doorLaid Tryz.prog 400 os).forCall (fun _ _ => 0) ⟨#[], args, []⟩).memory :=
 laidMet_of_run' 8 (by kernel_rfl) (by kernel_rfl)
open Go Go.RowKit Go.Proofs Lim
open Go.ChangeShapes Go.WideShapes Go.ChangeAt Go.ChangeMaps
theorem laidOut : laidOutB Tryz.prog = true := by kernel_rfl
section
variable {H : Type} {enc : TypeId × Value → H} {W : World} {b0 : Nat} {sp : Nat → Bool} {held : Bool}
set_option maxRecDepth 100000 in
theorem open_ends {n : Nat} {cs : List Value} {x : DataW H × List MemPlace} (h : DataW.trod enc Tryz.prog W b0 sp held n 64 cs = some x) : ∃ s t : ByteArray, cs = [.string s, .string t] := by
 obtain ⟨xs, n, _, rfl, hl, hlen, hf⟩ := DataW.trod_struct Tryz.underlying64 h
 match xs, hlen with
 | [x0, x1], _ =>
  have f0 := hf 0 _ rfl
  have f1 := hf 1 _ rfl
  obtain ⟨s, e0, _⟩ := DataW.trod_string Tryz.underlying9 f0
  obtain ⟨t, e1, _⟩ := DataW.trod_string Tryz.underlying9 f1
  have hl : cs.length = 2 := hl.trans (by kernel_rfl)
  match cs, hl with
  | [c0, c1], _ =>
   have e0 : [c0] = [Value.string s] := e0
   have e1 : [c1] = [Value.string t] := e1
   injection e0 with e0
   injection e1 with e1
   exact ⟨s, t, by rw [e0, e1]⟩
end
end Go.Proofs.YtccabfblgjcboaaGreatDoor
