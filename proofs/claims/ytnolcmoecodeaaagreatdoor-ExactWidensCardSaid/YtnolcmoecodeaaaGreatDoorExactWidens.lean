/- ExactWidens: for all texts the call returns true: a wider span makes no result narrower, and a span on a grid is the least one that has the span. No condition. -/
import Derived.Test.YtnolcmoecodeaaaGreatDoorJ5
import Derived.Test.YtnolcmoecodeaaaGreatDoorJF
set_option linter.unusedVariables false
set_option linter.unusedSimpArgs false

/- The mathematics of ExactWidens. -/
namespace Go.Proofs.YtnolcmoecodeaaaGreatDoor
open Go Go.RowKit Go.Proofs Lim
namespace Sym
section
variable {A B C D a b c d : Rat}
theorem and_has {x y p q : Rat} (h1 : Btw p q x) (h2 : Btw p q y) : (hasQ p q x && hasQ p q y) = true := by
  rw [(hasQ_iff _ _ _).2 h1, (hasQ_iff _ _ _).2 h2]; rfl
abbrev InW (f : Rat → Rat → Rat) (A B C D a b c d : Rat) : Prop := (hasQ (wLow f A B C D) (wHigh f A B C D) (wLow f a b c d) && hasQ (wLow f A B C D) (wHigh f A B C D) (wHigh f a b c d)) = true
theorem in_of (f : Rat → Rat → Rat) (H : ∀ p q, (p = a ∨ p = b) → (q = c ∨ q = d) → Btw (wLow f A B C D) (wHigh f A B C D) (f p q)) :
    (hasQ (wLow f A B C D) (wHigh f A B C D) (wLow f a b c d) && hasQ (wLow f A B C D) (wHigh f A B C D) (wHigh f a b c d)) = true := by
  refine and_has ?_ ?_
  · rcases wLow_mem f a b c d with h | h | h | h <;> rw [h]
    · exact H a c (.inl rfl) (.inl rfl)
    · exact H a d (.inl rfl) (.inr rfl)
    · exact H b c (.inr rfl) (.inl rfl)
    · exact H b d (.inr rfl) (.inr rfl)
  · rcases wHigh_mem f a b c d with h | h | h | h <;> rw [h]
    · exact H a c (.inl rfl) (.inl rfl)
    · exact H a d (.inl rfl) (.inr rfl)
    · exact H b c (.inr rfl) (.inl rfl)
    · exact H b d (.inr rfl) (.inr rfl)
theorem ends {x : Rat} (ha : Btw A B a) (hb : Btw A B b) (h : x = a ∨ x = b) : Btw A B x := by
  rcases h with rfl | rfl <;> assumption
theorem wide_plus (ha : Btw A B a) (hb : Btw A B b) (hc : Btw C D c) (hd : Btw C D d) : InW (fun r s => r + s) A B C D a b c d := in_of (A := A) (B := B) (C := C) (D := D) (a := a) (b := b) (c := c) (d := d) (fun r s => r + s) (fun _ _ hp hq => plus_in (ends ha hb hp) (ends hc hd hq))
theorem wide_minus (ha : Btw A B a) (hb : Btw A B b) (hc : Btw C D c) (hd : Btw C D d) : InW (fun r s => r - s) A B C D a b c d := in_of (A := A) (B := B) (C := C) (D := D) (a := a) (b := b) (c := c) (d := d) (fun r s => r - s) (fun _ _ hp hq => minus_in (ends ha hb hp) (ends hc hd hq))
theorem wide_times (ha : Btw A B a) (hb : Btw A B b) (hc : Btw C D c) (hd : Btw C D d) : InW (fun r s => r * s) A B C D a b c d := in_of (A := A) (B := B) (C := C) (D := D) (a := a) (b := b) (c := c) (d := d) (fun r s => r * s) (fun _ _ hp hq => times_in (ends ha hb hp) (ends hc hd hq))
theorem wide_over (ha : Btw A B a) (hb : Btw A B b) (hc : Btw C D c) (hd : Btw C D d) (h0 : hasQ C D 0 = false) : InW (fun r s => r * s⁻¹) A B C D a b c d := in_of (A := A) (B := B) (C := C) (D := D) (a := a) (b := b) (c := c) (d := d) (fun r s => r * s⁻¹) (fun _ _ hp hq => over_in (ends ha hb hp) (ends hc hd hq) (hasQ_false h0))
theorem wide_zero (ha : Btw A B a) (hb : Btw A B b) (h0 : hasQ A B 0 = false) : hasQ a b 0 = false := by
  cases h : hasQ a b 0 with
  | false => rfl
  | true => exact absurd (btw_trans ((hasQ_iff _ _ _).1 h) ha hb) (hasQ_false h0)
theorem wide_square (ha : Btw A B a) (hb : Btw A B b) :
    (hasQ (lowOf (A * A) (turnVals (hasQ A B 0) (B * B) (0 * 0))) (highOf (A * A) (turnVals (hasQ A B 0) (B * B) (0 * 0))) (lowOf (a * a) (turnVals (hasQ a b 0) (b * b) (0 * 0))) &&
     hasQ (lowOf (A * A) (turnVals (hasQ A B 0) (B * B) (0 * 0))) (highOf (A * A) (turnVals (hasQ A B 0) (B * B) (0 * 0))) (highOf (a * a) (turnVals (hasQ a b 0) (b * b) (0 * 0)))) = true := by
  have := square_ends a b (fun x => Btw (lowOf (A * A) (turnVals (hasQ A B 0) (B * B) (0 * 0))) (highOf (A * A) (turnVals (hasQ A B 0) (B * B) (0 * 0))) x) (square_in ha) (square_in hb) (fun h => by simpa using square_in (btw_trans h ha hb))
  exact and_has this.1 this.2
theorem wide_abs (ha : Btw A B a) (hb : Btw A B b) :
    (hasQ (lowOf (absQ A) (turnVals (hasQ A B 0) (absQ B) (absQ 0))) (highOf (absQ A) (turnVals (hasQ A B 0) (absQ B) (absQ 0))) (lowOf (absQ a) (turnVals (hasQ a b 0) (absQ b) (absQ 0))) &&
     hasQ (lowOf (absQ A) (turnVals (hasQ A B 0) (absQ B) (absQ 0))) (highOf (absQ A) (turnVals (hasQ A B 0) (absQ B) (absQ 0))) (highOf (absQ a) (turnVals (hasQ a b 0) (absQ b) (absQ 0)))) = true := by
  have key : ∀ x, x = absQ a ∨ x ∈ turnVals (hasQ a b 0) (absQ b) (absQ 0) → Btw (lowOf (absQ A) (turnVals (hasQ A B 0) (absQ B) (absQ 0))) (highOf (absQ A) (turnVals (hasQ A B 0) (absQ B) (absQ 0))) x := by
    intro x hx
    rcases hx with rfl | hx
    · exact abs_in ha
    · unfold turnVals at hx
      split at hx
      · rename_i hh
        have := (hasQ_iff a b 0).1 hh
        simp at hx
        rcases hx with rfl | rfl
        · exact abs_in hb
        · exact abs_in (btw_trans this ha hb)
      · simp at hx
        subst hx
        exact abs_in hb
  exact and_has (key _ (lowOf_mem _ _)) (key _ (highOf_mem _ _))
end
section
variable {a b g : Rat}
theorem grid_pos (h : sign g = 1) : 0 < g := by
  rw [sign_eq] at h
  split at h
  · cases h
  · split at h
    · assumption
    · cases h
theorem grid_ne (h : sign g = 1) : decide (g = 0) = false := by
  have := grid_pos h
  exact decide_eq_false (by grind)
theorem grid_back (h : sign g = 1) (i : Int) : ((i : Rat) * g) / g = (i : Rat) := by
  have h1 := grid_pos h
  have h2 : g ≠ 0 := by grind
  rw [Rat.div_def, Rat.mul_assoc, Rat.mul_inv_cancel _ h2, Rat.mul_one]
theorem grid_floor (h : sign g = 1) (i : Int) : decide (((Rat.floor (((i : Int) : Rat) * g / g) : Int) : Rat) = ((i : Int) : Rat) * g / g) = true := by
  rw [grid_back h, Rat.floor_intCast]
  exact decide_eq_true rfl
theorem floor_grid_le (h : sign g = 1) (x : Rat) : ((Rat.floor (x * g⁻¹) : Int) : Rat) * g ≤ x ∧ x < ((Rat.floor (x * g⁻¹) : Int) : Rat) * g + g := by
  have h1 := grid_pos h
  have h2 : g ≠ 0 := by grind
  have e : x = (x * g⁻¹) * g := by rw [Rat.mul_assoc, Rat.inv_mul_cancel _ h2, Rat.mul_one]
  have f1 : ((Rat.floor (x * g⁻¹) : Int) : Rat) ≤ x * g⁻¹ := Rat.floor_le _
  have f2 : x * g⁻¹ < ((Rat.floor (x * g⁻¹) : Int) : Rat) + 1 := cmp_lt.1 (cmp_floor1 _)
  generalize x * g⁻¹ = y at *
  generalize ((Rat.floor y : Int) : Rat) = z at *
  subst e
  constructor
  · exact Rat.mul_le_mul_of_nonneg_right f1 (Rat.le_of_lt h1)
  · have := Rat.mul_lt_mul_of_pos_right f2 h1
    grind
theorem ceil_grid_ge (h : sign g = 1) (x : Rat) : x ≤ ((Rat.ceil (x * g⁻¹) : Int) : Rat) * g ∧ ((Rat.ceil (x * g⁻¹) : Int) : Rat) * g - g < x := by
  have h1 := grid_pos h
  have h2 : g ≠ 0 := by grind
  have e : x = (x * g⁻¹) * g := by rw [Rat.mul_assoc, Rat.inv_mul_cancel _ h2, Rat.mul_one]
  have f1 : x * g⁻¹ ≤ ((Rat.ceil (x * g⁻¹) : Int) : Rat) := Rat.le_ceil
  have f2 : ((Rat.ceil (x * g⁻¹) : Int) : Rat) - 1 < x * g⁻¹ := cmp_gt.1 (cmp_ceil1 _)
  generalize x * g⁻¹ = y at *
  generalize ((Rat.ceil y : Int) : Rat) = z at *
  subst e
  constructor
  · exact Rat.mul_le_mul_of_nonneg_right f1 (Rat.le_of_lt h1)
  · have := Rat.mul_lt_mul_of_pos_right f2 h1
    grind
theorem out_in (h : sign g = 1) (hab : a ≤ b) :
    (hasQ (((Rat.floor (lowOf a [b] * g⁻¹) : Int) : Rat) * g) (((Rat.ceil (highOf a [b] * g⁻¹) : Int) : Rat) * g) a && hasQ (((Rat.floor (lowOf a [b] * g⁻¹) : Int) : Rat) * g) (((Rat.ceil (highOf a [b] * g⁻¹) : Int) : Rat) * g) b) = true := by
  have f := floor_grid_le h (lowOf a [b])
  have c := ceil_grid_ge h (highOf a [b])
  have l := low1 a b
  have u := high1 a b
  refine and_has (.inl ⟨Rat.le_trans f.1 l.1, Rat.le_trans u.1 c.1⟩) (.inl ⟨Rat.le_trans f.1 l.2, Rat.le_trans u.2 c.1⟩)
theorem low_of_le (hab : a ≤ b) : lowOf a [b] = a := by
  rw [lowOf_one]
  split
  · grind
  · rfl
theorem high_of_le (hab : a ≤ b) : highOf a [b] = b := by
  rw [highOf_one]
  split
  · rfl
  · grind
theorem cmp_is_lt {x y : Rat} (h : x < y) : cmpQ x y = -1 := by unfold cmpQ; rw [if_pos h]
theorem cmp_is_gt {x y : Rat} (h : y < x) : cmpQ x y = 1 := by unfold cmpQ; rw [if_neg (by grind), if_pos h]
theorem out_low (h : sign g = 1) (hab : a ≤ b) : cmpQ a (((Rat.floor (lowOf a [b] * g⁻¹) : Int) : Rat) * g + g) = -1 := by
  have f := (floor_grid_le h (lowOf a [b])).2
  rw [low_of_le hab] at f ⊢
  exact cmp_is_lt f
theorem out_high (h : sign g = 1) (hab : a ≤ b) : cmpQ b (((Rat.ceil (highOf a [b] * g⁻¹) : Int) : Rat) * g - g) = 1 := by
  have f := (ceil_grid_ge h (highOf a [b])).2
  rw [high_of_le hab] at f ⊢
  exact cmp_is_gt f
end
end Sym
end Go.Proofs.YtnolcmoecodeaaaGreatDoor

/- ExactWidens: for all texts the call returns true: a wider span makes no result narrower, and a span on a grid is the least one that has the span. No condition. -/
namespace Go.Proofs.YtnolcmoecodeaaaGreatDoor
open Go Go.RowKit Go.Proofs Lim
namespace Sym

noncomputable def cl_widens_1 (la : List UInt8) (lb : List UInt8) (lc : List UInt8) (ld : List UInt8) (le : List UInt8) (lf : List UInt8) (lg : List UInt8) (xa : Rat) (xb : Rat) (xc : Rat) (xd : Rat) (xe : Rat) (xf : Rat) (g : Rat) (m : Nat) (n : Nat) : List Cl := [
  clV (str la),
  clV (str lb),
  clV (str lc),
  clV (str ld),
  clV (str le),
  clV (str lf),
  clV (.int .u8 (m : Int)),
  clV (.int .u8 (n : Int)),
  clV (str lg)]

def t_widens_1 : List Ent := [
  ⟨.call 27, [.slc 9 7 [.cls 0 1, .cls 1 1, .cls 2 1, .cls 3 1, .cls 4 1, .cls 5 1, .cls 8 1]], (.val (vp (.bool true)))⟩,
  ⟨.call 14, [], (.val (vp (.bool true)))⟩]

noncomputable def cl_widens_2 (la : List UInt8) (lb : List UInt8) (lc : List UInt8) (ld : List UInt8) (le : List UInt8) (lf : List UInt8) (lg : List UInt8) (xa : Rat) (xb : Rat) (xc : Rat) (xd : Rat) (xe : Rat) (xf : Rat) (g : Rat) (m : Nat) (n : Nat) : List Cl := [
  clV (str la),
  clV (str lb),
  clV (str lc),
  clV (str ld),
  clV (str le),
  clV (str lf),
  clV (.int .u8 (m : Int)),
  clV (.int .u8 (n : Int)),
  clV (str lg),
  clQ (xa) 121,
  clQ (xb) 121,
  clQ (lowOf (xa) [xb]) 242,
  clQ (highOf (xa) [xb]) 242,
  clQ (xc) 121,
  clQ (xd) 121,
  clQ (lowOf (xc) [xd]) 242,
  clQ (highOf (xc) [xd]) 242,
  clQ (xe) 121,
  clQ (xf) 121,
  clQ (lowOf (xe) [xf]) 242,
  clQ (highOf (xe) [xf]) 242,
  clQ (lowOf (lowOf (xa) [xb]) [highOf (xa) [xb], lowOf (xe) [xf], highOf (xe) [xf]]) 968,
  clQ (highOf (lowOf (xa) [xb]) [highOf (xa) [xb], lowOf (xe) [xf], highOf (xe) [xf]]) 968,
  clQ (wLow (fun r s => r + s) (lowOf (xa) [xb]) (highOf (xa) [xb]) (lowOf (xc) [xd]) (highOf (xc) [xd])) 1937,
  clQ (wHigh (fun r s => r + s) (lowOf (xa) [xb]) (highOf (xa) [xb]) (lowOf (xc) [xd]) (highOf (xc) [xd])) 1937,
  clQ (wLow (fun r s => r + s) (lowOf (lowOf (xa) [xb]) [highOf (xa) [xb], lowOf (xe) [xf], highOf (xe) [xf]]) (highOf (lowOf (xa) [xb]) [highOf (xa) [xb], lowOf (xe) [xf], highOf (xe) [xf]]) (lowOf (xc) [xd]) (highOf (xc) [xd])) 4841,
  clQ (wHigh (fun r s => r + s) (lowOf (lowOf (xa) [xb]) [highOf (xa) [xb], lowOf (xe) [xf], highOf (xe) [xf]]) (highOf (lowOf (xa) [xb]) [highOf (xa) [xb], lowOf (xe) [xf], highOf (xe) [xf]]) (lowOf (xc) [xd]) (highOf (xc) [xd])) 4841,
  clQ (wLow (fun r s => r - s) (lowOf (xa) [xb]) (highOf (xa) [xb]) (lowOf (xc) [xd]) (highOf (xc) [xd])) 1937,
  clQ (wHigh (fun r s => r - s) (lowOf (xa) [xb]) (highOf (xa) [xb]) (lowOf (xc) [xd]) (highOf (xc) [xd])) 1937,
  clQ (wLow (fun r s => r - s) (lowOf (lowOf (xa) [xb]) [highOf (xa) [xb], lowOf (xe) [xf], highOf (xe) [xf]]) (highOf (lowOf (xa) [xb]) [highOf (xa) [xb], lowOf (xe) [xf], highOf (xe) [xf]]) (lowOf (xc) [xd]) (highOf (xc) [xd])) 4841,
  clQ (wHigh (fun r s => r - s) (lowOf (lowOf (xa) [xb]) [highOf (xa) [xb], lowOf (xe) [xf], highOf (xe) [xf]]) (highOf (lowOf (xa) [xb]) [highOf (xa) [xb], lowOf (xe) [xf], highOf (xe) [xf]]) (lowOf (xc) [xd]) (highOf (xc) [xd])) 4841,
  clQ (wLow (fun r s => r * s) (lowOf (xa) [xb]) (highOf (xa) [xb]) (lowOf (xc) [xd]) (highOf (xc) [xd])) 1937,
  clQ (wHigh (fun r s => r * s) (lowOf (xa) [xb]) (highOf (xa) [xb]) (lowOf (xc) [xd]) (highOf (xc) [xd])) 1937,
  clQ (wLow (fun r s => r * s) (lowOf (lowOf (xa) [xb]) [highOf (xa) [xb], lowOf (xe) [xf], highOf (xe) [xf]]) (highOf (lowOf (xa) [xb]) [highOf (xa) [xb], lowOf (xe) [xf], highOf (xe) [xf]]) (lowOf (xc) [xd]) (highOf (xc) [xd])) 4841,
  clQ (wHigh (fun r s => r * s) (lowOf (lowOf (xa) [xb]) [highOf (xa) [xb], lowOf (xe) [xf], highOf (xe) [xf]]) (highOf (lowOf (xa) [xb]) [highOf (xa) [xb], lowOf (xe) [xf], highOf (xe) [xf]]) (lowOf (xc) [xd]) (highOf (xc) [xd])) 4841,
  clQ (wLow (fun r s => r * s) (lowOf (xc) [xd]) (highOf (xc) [xd]) (lowOf (xa) [xb]) (highOf (xa) [xb])) 1937,
  clQ (wHigh (fun r s => r * s) (lowOf (xc) [xd]) (highOf (xc) [xd]) (lowOf (xa) [xb]) (highOf (xa) [xb])) 1937,
  clQ (wLow (fun r s => r * s) (lowOf (xc) [xd]) (highOf (xc) [xd]) (lowOf (lowOf (xa) [xb]) [highOf (xa) [xb], lowOf (xe) [xf], highOf (xe) [xf]]) (highOf (lowOf (xa) [xb]) [highOf (xa) [xb], lowOf (xe) [xf], highOf (xe) [xf]])) 4841,
  clQ (wHigh (fun r s => r * s) (lowOf (xc) [xd]) (highOf (xc) [xd]) (lowOf (lowOf (xa) [xb]) [highOf (xa) [xb], lowOf (xe) [xf], highOf (xe) [xf]]) (highOf (lowOf (xa) [xb]) [highOf (xa) [xb], lowOf (xe) [xf], highOf (xe) [xf]])) 4841,
  clQ (lowOf ((lowOf (xa) [xb]) * (lowOf (xa) [xb])) (turnVals (hasQ (lowOf (xa) [xb]) (highOf (xa) [xb]) 0) ((highOf (xa) [xb]) * (highOf (xa) [xb])) (0 * 0))) 968,
  clQ (highOf ((lowOf (xa) [xb]) * (lowOf (xa) [xb])) (turnVals (hasQ (lowOf (xa) [xb]) (highOf (xa) [xb]) 0) ((highOf (xa) [xb]) * (highOf (xa) [xb])) (0 * 0))) 968,
  clQ (lowOf ((lowOf (lowOf (xa) [xb]) [highOf (xa) [xb], lowOf (xe) [xf], highOf (xe) [xf]]) * (lowOf (lowOf (xa) [xb]) [highOf (xa) [xb], lowOf (xe) [xf], highOf (xe) [xf]])) (turnVals (hasQ (lowOf (lowOf (xa) [xb]) [highOf (xa) [xb], lowOf (xe) [xf], highOf (xe) [xf]]) (highOf (lowOf (xa) [xb]) [highOf (xa) [xb], lowOf (xe) [xf], highOf (xe) [xf]]) 0) ((highOf (lowOf (xa) [xb]) [highOf (xa) [xb], lowOf (xe) [xf], highOf (xe) [xf]]) * (highOf (lowOf (xa) [xb]) [highOf (xa) [xb], lowOf (xe) [xf], highOf (xe) [xf]])) (0 * 0))) 3872,
  clQ (highOf ((lowOf (lowOf (xa) [xb]) [highOf (xa) [xb], lowOf (xe) [xf], highOf (xe) [xf]]) * (lowOf (lowOf (xa) [xb]) [highOf (xa) [xb], lowOf (xe) [xf], highOf (xe) [xf]])) (turnVals (hasQ (lowOf (lowOf (xa) [xb]) [highOf (xa) [xb], lowOf (xe) [xf], highOf (xe) [xf]]) (highOf (lowOf (xa) [xb]) [highOf (xa) [xb], lowOf (xe) [xf], highOf (xe) [xf]]) 0) ((highOf (lowOf (xa) [xb]) [highOf (xa) [xb], lowOf (xe) [xf], highOf (xe) [xf]]) * (highOf (lowOf (xa) [xb]) [highOf (xa) [xb], lowOf (xe) [xf], highOf (xe) [xf]])) (0 * 0))) 3872,
  clQ (lowOf (absQ (lowOf (xa) [xb])) (turnVals (hasQ (lowOf (xa) [xb]) (highOf (xa) [xb]) 0) (absQ (highOf (xa) [xb])) (absQ 0))) 968,
  clQ (highOf (absQ (lowOf (xa) [xb])) (turnVals (hasQ (lowOf (xa) [xb]) (highOf (xa) [xb]) 0) (absQ (highOf (xa) [xb])) (absQ 0))) 968,
  clQ (lowOf (absQ (lowOf (lowOf (xa) [xb]) [highOf (xa) [xb], lowOf (xe) [xf], highOf (xe) [xf]])) (turnVals (hasQ (lowOf (lowOf (xa) [xb]) [highOf (xa) [xb], lowOf (xe) [xf], highOf (xe) [xf]]) (highOf (lowOf (xa) [xb]) [highOf (xa) [xb], lowOf (xe) [xf], highOf (xe) [xf]]) 0) (absQ (highOf (lowOf (xa) [xb]) [highOf (xa) [xb], lowOf (xe) [xf], highOf (xe) [xf]])) (absQ 0))) 3872,
  clQ (highOf (absQ (lowOf (lowOf (xa) [xb]) [highOf (xa) [xb], lowOf (xe) [xf], highOf (xe) [xf]])) (turnVals (hasQ (lowOf (lowOf (xa) [xb]) [highOf (xa) [xb], lowOf (xe) [xf], highOf (xe) [xf]]) (highOf (lowOf (xa) [xb]) [highOf (xa) [xb], lowOf (xe) [xf], highOf (xe) [xf]]) 0) (absQ (highOf (lowOf (xa) [xb]) [highOf (xa) [xb], lowOf (xe) [xf], highOf (xe) [xf]])) (absQ 0))) 3872,
  clQ (0) 300000,
  clQ (g) 121]

def t_widens_2 : List Ent := [
  ⟨.call 27, [.slc 9 7 [.cls 0 1, .cls 1 1, .cls 2 1, .cls 3 1, .cls 4 1, .cls 5 1, .cls 8 1]], (.val (vp (.bool false)))⟩,
  ⟨.call 76, [op 0], (.val (qp 9))⟩,
  ⟨.call 76, [op 1], (.val (qp 10))⟩,
  ⟨.call 59, [qp 9, qp 10], (.val (sp 11 12))⟩,
  ⟨.call 76, [op 2], (.val (qp 13))⟩,
  ⟨.call 76, [op 3], (.val (qp 14))⟩,
  ⟨.call 59, [qp 13, qp 14], (.val (sp 15 16))⟩,
  ⟨.call 76, [op 4], (.val (qp 17))⟩,
  ⟨.call 76, [op 5], (.val (qp 18))⟩,
  ⟨.call 59, [qp 17, qp 18], (.val (sp 19 20))⟩,
  ⟨.call 57, [sp 11 12, sp 19 20], (.val (sp 21 22))⟩,
  ⟨.call 81, [sp 11 12, sp 21 22], (.val (vp (.bool true)))⟩,
  ⟨.call 51, [sp 11 12, sp 15 16], (.val (sp 23 24))⟩,
  ⟨.call 51, [sp 21 22, sp 15 16], (.val (sp 25 26))⟩,
  ⟨.call 81, [sp 23 24, sp 25 26], (.val (vp (.bool true)))⟩,
  ⟨.call 53, [sp 11 12, sp 15 16], (.val (sp 27 28))⟩,
  ⟨.call 53, [sp 21 22, sp 15 16], (.val (sp 29 30))⟩,
  ⟨.call 81, [sp 27 28, sp 29 30], (.val (vp (.bool true)))⟩,
  ⟨.call 55, [sp 11 12, sp 15 16], (.val (sp 31 32))⟩,
  ⟨.call 55, [sp 21 22, sp 15 16], (.val (sp 33 34))⟩,
  ⟨.call 81, [sp 31 32, sp 33 34], (.val (vp (.bool true)))⟩,
  ⟨.call 55, [sp 15 16, sp 11 12], (.val (sp 35 36))⟩,
  ⟨.call 55, [sp 15 16, sp 21 22], (.val (sp 37 38))⟩,
  ⟨.call 81, [sp 35 36, sp 37 38], (.val (vp (.bool true)))⟩,
  ⟨.call 62, [sp 11 12], (.val (sp 39 40))⟩,
  ⟨.call 62, [sp 21 22], (.val (sp 41 42))⟩,
  ⟨.call 81, [sp 39 40, sp 41 42], (.val (vp (.bool true)))⟩,
  ⟨.call 64, [sp 11 12], (.val (sp 43 44))⟩,
  ⟨.call 64, [sp 21 22], (.val (sp 45 46))⟩,
  ⟨.call 81, [sp 43 44, sp 45 46], (.val (vp (.bool true)))⟩,
  ⟨.call 68, [sp 15 16, sp 21 22], (.tup [sp 47 47, vp (.int .i64 10)])⟩,
  ⟨.call 76, [op 8], (.val (qp 48))⟩,
  ⟨.call 70, [sp 11 12, qp 48], (.tup [sp 47 47, vp (.int .i64 3)])⟩,
  ⟨.call 23, [qp 48], (.val (vp (.int .i64 (-1))))⟩,
  ⟨.call 14, [], (.val (vp (.bool true)))⟩]

noncomputable def cl_widens_3 (la : List UInt8) (lb : List UInt8) (lc : List UInt8) (ld : List UInt8) (le : List UInt8) (lf : List UInt8) (lg : List UInt8) (xa : Rat) (xb : Rat) (xc : Rat) (xd : Rat) (xe : Rat) (xf : Rat) (g : Rat) (m : Nat) (n : Nat) : List Cl := [
  clV (str la),
  clV (str lb),
  clV (str lc),
  clV (str ld),
  clV (str le),
  clV (str lf),
  clV (.int .u8 (m : Int)),
  clV (.int .u8 (n : Int)),
  clV (str lg),
  clQ (xa) 121,
  clQ (xb) 121,
  clQ (lowOf (xa) [xb]) 242,
  clQ (highOf (xa) [xb]) 242,
  clQ (xc) 121,
  clQ (xd) 121,
  clQ (lowOf (xc) [xd]) 242,
  clQ (highOf (xc) [xd]) 242,
  clQ (xe) 121,
  clQ (xf) 121,
  clQ (lowOf (xe) [xf]) 242,
  clQ (highOf (xe) [xf]) 242,
  clQ (lowOf (lowOf (xa) [xb]) [highOf (xa) [xb], lowOf (xe) [xf], highOf (xe) [xf]]) 968,
  clQ (highOf (lowOf (xa) [xb]) [highOf (xa) [xb], lowOf (xe) [xf], highOf (xe) [xf]]) 968,
  clQ (wLow (fun r s => r + s) (lowOf (xa) [xb]) (highOf (xa) [xb]) (lowOf (xc) [xd]) (highOf (xc) [xd])) 1937,
  clQ (wHigh (fun r s => r + s) (lowOf (xa) [xb]) (highOf (xa) [xb]) (lowOf (xc) [xd]) (highOf (xc) [xd])) 1937,
  clQ (wLow (fun r s => r + s) (lowOf (lowOf (xa) [xb]) [highOf (xa) [xb], lowOf (xe) [xf], highOf (xe) [xf]]) (highOf (lowOf (xa) [xb]) [highOf (xa) [xb], lowOf (xe) [xf], highOf (xe) [xf]]) (lowOf (xc) [xd]) (highOf (xc) [xd])) 4841,
  clQ (wHigh (fun r s => r + s) (lowOf (lowOf (xa) [xb]) [highOf (xa) [xb], lowOf (xe) [xf], highOf (xe) [xf]]) (highOf (lowOf (xa) [xb]) [highOf (xa) [xb], lowOf (xe) [xf], highOf (xe) [xf]]) (lowOf (xc) [xd]) (highOf (xc) [xd])) 4841,
  clQ (wLow (fun r s => r - s) (lowOf (xa) [xb]) (highOf (xa) [xb]) (lowOf (xc) [xd]) (highOf (xc) [xd])) 1937,
  clQ (wHigh (fun r s => r - s) (lowOf (xa) [xb]) (highOf (xa) [xb]) (lowOf (xc) [xd]) (highOf (xc) [xd])) 1937,
  clQ (wLow (fun r s => r - s) (lowOf (lowOf (xa) [xb]) [highOf (xa) [xb], lowOf (xe) [xf], highOf (xe) [xf]]) (highOf (lowOf (xa) [xb]) [highOf (xa) [xb], lowOf (xe) [xf], highOf (xe) [xf]]) (lowOf (xc) [xd]) (highOf (xc) [xd])) 4841,
  clQ (wHigh (fun r s => r - s) (lowOf (lowOf (xa) [xb]) [highOf (xa) [xb], lowOf (xe) [xf], highOf (xe) [xf]]) (highOf (lowOf (xa) [xb]) [highOf (xa) [xb], lowOf (xe) [xf], highOf (xe) [xf]]) (lowOf (xc) [xd]) (highOf (xc) [xd])) 4841,
  clQ (wLow (fun r s => r * s) (lowOf (xa) [xb]) (highOf (xa) [xb]) (lowOf (xc) [xd]) (highOf (xc) [xd])) 1937,
  clQ (wHigh (fun r s => r * s) (lowOf (xa) [xb]) (highOf (xa) [xb]) (lowOf (xc) [xd]) (highOf (xc) [xd])) 1937,
  clQ (wLow (fun r s => r * s) (lowOf (lowOf (xa) [xb]) [highOf (xa) [xb], lowOf (xe) [xf], highOf (xe) [xf]]) (highOf (lowOf (xa) [xb]) [highOf (xa) [xb], lowOf (xe) [xf], highOf (xe) [xf]]) (lowOf (xc) [xd]) (highOf (xc) [xd])) 4841,
  clQ (wHigh (fun r s => r * s) (lowOf (lowOf (xa) [xb]) [highOf (xa) [xb], lowOf (xe) [xf], highOf (xe) [xf]]) (highOf (lowOf (xa) [xb]) [highOf (xa) [xb], lowOf (xe) [xf], highOf (xe) [xf]]) (lowOf (xc) [xd]) (highOf (xc) [xd])) 4841,
  clQ (wLow (fun r s => r * s) (lowOf (xc) [xd]) (highOf (xc) [xd]) (lowOf (xa) [xb]) (highOf (xa) [xb])) 1937,
  clQ (wHigh (fun r s => r * s) (lowOf (xc) [xd]) (highOf (xc) [xd]) (lowOf (xa) [xb]) (highOf (xa) [xb])) 1937,
  clQ (wLow (fun r s => r * s) (lowOf (xc) [xd]) (highOf (xc) [xd]) (lowOf (lowOf (xa) [xb]) [highOf (xa) [xb], lowOf (xe) [xf], highOf (xe) [xf]]) (highOf (lowOf (xa) [xb]) [highOf (xa) [xb], lowOf (xe) [xf], highOf (xe) [xf]])) 4841,
  clQ (wHigh (fun r s => r * s) (lowOf (xc) [xd]) (highOf (xc) [xd]) (lowOf (lowOf (xa) [xb]) [highOf (xa) [xb], lowOf (xe) [xf], highOf (xe) [xf]]) (highOf (lowOf (xa) [xb]) [highOf (xa) [xb], lowOf (xe) [xf], highOf (xe) [xf]])) 4841,
  clQ (lowOf ((lowOf (xa) [xb]) * (lowOf (xa) [xb])) (turnVals (hasQ (lowOf (xa) [xb]) (highOf (xa) [xb]) 0) ((highOf (xa) [xb]) * (highOf (xa) [xb])) (0 * 0))) 968,
  clQ (highOf ((lowOf (xa) [xb]) * (lowOf (xa) [xb])) (turnVals (hasQ (lowOf (xa) [xb]) (highOf (xa) [xb]) 0) ((highOf (xa) [xb]) * (highOf (xa) [xb])) (0 * 0))) 968,
  clQ (lowOf ((lowOf (lowOf (xa) [xb]) [highOf (xa) [xb], lowOf (xe) [xf], highOf (xe) [xf]]) * (lowOf (lowOf (xa) [xb]) [highOf (xa) [xb], lowOf (xe) [xf], highOf (xe) [xf]])) (turnVals (hasQ (lowOf (lowOf (xa) [xb]) [highOf (xa) [xb], lowOf (xe) [xf], highOf (xe) [xf]]) (highOf (lowOf (xa) [xb]) [highOf (xa) [xb], lowOf (xe) [xf], highOf (xe) [xf]]) 0) ((highOf (lowOf (xa) [xb]) [highOf (xa) [xb], lowOf (xe) [xf], highOf (xe) [xf]]) * (highOf (lowOf (xa) [xb]) [highOf (xa) [xb], lowOf (xe) [xf], highOf (xe) [xf]])) (0 * 0))) 3872,
  clQ (highOf ((lowOf (lowOf (xa) [xb]) [highOf (xa) [xb], lowOf (xe) [xf], highOf (xe) [xf]]) * (lowOf (lowOf (xa) [xb]) [highOf (xa) [xb], lowOf (xe) [xf], highOf (xe) [xf]])) (turnVals (hasQ (lowOf (lowOf (xa) [xb]) [highOf (xa) [xb], lowOf (xe) [xf], highOf (xe) [xf]]) (highOf (lowOf (xa) [xb]) [highOf (xa) [xb], lowOf (xe) [xf], highOf (xe) [xf]]) 0) ((highOf (lowOf (xa) [xb]) [highOf (xa) [xb], lowOf (xe) [xf], highOf (xe) [xf]]) * (highOf (lowOf (xa) [xb]) [highOf (xa) [xb], lowOf (xe) [xf], highOf (xe) [xf]])) (0 * 0))) 3872,
  clQ (lowOf (absQ (lowOf (xa) [xb])) (turnVals (hasQ (lowOf (xa) [xb]) (highOf (xa) [xb]) 0) (absQ (highOf (xa) [xb])) (absQ 0))) 968,
  clQ (highOf (absQ (lowOf (xa) [xb])) (turnVals (hasQ (lowOf (xa) [xb]) (highOf (xa) [xb]) 0) (absQ (highOf (xa) [xb])) (absQ 0))) 968,
  clQ (lowOf (absQ (lowOf (lowOf (xa) [xb]) [highOf (xa) [xb], lowOf (xe) [xf], highOf (xe) [xf]])) (turnVals (hasQ (lowOf (lowOf (xa) [xb]) [highOf (xa) [xb], lowOf (xe) [xf], highOf (xe) [xf]]) (highOf (lowOf (xa) [xb]) [highOf (xa) [xb], lowOf (xe) [xf], highOf (xe) [xf]]) 0) (absQ (highOf (lowOf (xa) [xb]) [highOf (xa) [xb], lowOf (xe) [xf], highOf (xe) [xf]])) (absQ 0))) 3872,
  clQ (highOf (absQ (lowOf (lowOf (xa) [xb]) [highOf (xa) [xb], lowOf (xe) [xf], highOf (xe) [xf]])) (turnVals (hasQ (lowOf (lowOf (xa) [xb]) [highOf (xa) [xb], lowOf (xe) [xf], highOf (xe) [xf]]) (highOf (lowOf (xa) [xb]) [highOf (xa) [xb], lowOf (xe) [xf], highOf (xe) [xf]]) 0) (absQ (highOf (lowOf (xa) [xb]) [highOf (xa) [xb], lowOf (xe) [xf], highOf (xe) [xf]])) (absQ 0))) 3872,
  clQ (0) 300000,
  clQ (g) 121]

def t_widens_3 : List Ent := [
  ⟨.call 27, [.slc 9 7 [.cls 0 1, .cls 1 1, .cls 2 1, .cls 3 1, .cls 4 1, .cls 5 1, .cls 8 1]], (.val (vp (.bool false)))⟩,
  ⟨.call 76, [op 0], (.val (qp 9))⟩,
  ⟨.call 76, [op 1], (.val (qp 10))⟩,
  ⟨.call 59, [qp 9, qp 10], (.val (sp 11 12))⟩,
  ⟨.call 76, [op 2], (.val (qp 13))⟩,
  ⟨.call 76, [op 3], (.val (qp 14))⟩,
  ⟨.call 59, [qp 13, qp 14], (.val (sp 15 16))⟩,
  ⟨.call 76, [op 4], (.val (qp 17))⟩,
  ⟨.call 76, [op 5], (.val (qp 18))⟩,
  ⟨.call 59, [qp 17, qp 18], (.val (sp 19 20))⟩,
  ⟨.call 57, [sp 11 12, sp 19 20], (.val (sp 21 22))⟩,
  ⟨.call 81, [sp 11 12, sp 21 22], (.val (vp (.bool true)))⟩,
  ⟨.call 51, [sp 11 12, sp 15 16], (.val (sp 23 24))⟩,
  ⟨.call 51, [sp 21 22, sp 15 16], (.val (sp 25 26))⟩,
  ⟨.call 81, [sp 23 24, sp 25 26], (.val (vp (.bool true)))⟩,
  ⟨.call 53, [sp 11 12, sp 15 16], (.val (sp 27 28))⟩,
  ⟨.call 53, [sp 21 22, sp 15 16], (.val (sp 29 30))⟩,
  ⟨.call 81, [sp 27 28, sp 29 30], (.val (vp (.bool true)))⟩,
  ⟨.call 55, [sp 11 12, sp 15 16], (.val (sp 31 32))⟩,
  ⟨.call 55, [sp 21 22, sp 15 16], (.val (sp 33 34))⟩,
  ⟨.call 81, [sp 31 32, sp 33 34], (.val (vp (.bool true)))⟩,
  ⟨.call 55, [sp 15 16, sp 11 12], (.val (sp 35 36))⟩,
  ⟨.call 55, [sp 15 16, sp 21 22], (.val (sp 37 38))⟩,
  ⟨.call 81, [sp 35 36, sp 37 38], (.val (vp (.bool true)))⟩,
  ⟨.call 62, [sp 11 12], (.val (sp 39 40))⟩,
  ⟨.call 62, [sp 21 22], (.val (sp 41 42))⟩,
  ⟨.call 81, [sp 39 40, sp 41 42], (.val (vp (.bool true)))⟩,
  ⟨.call 64, [sp 11 12], (.val (sp 43 44))⟩,
  ⟨.call 64, [sp 21 22], (.val (sp 45 46))⟩,
  ⟨.call 81, [sp 43 44, sp 45 46], (.val (vp (.bool true)))⟩,
  ⟨.call 68, [sp 15 16, sp 21 22], (.tup [sp 47 47, vp (.int .i64 10)])⟩,
  ⟨.call 76, [op 8], (.val (qp 48))⟩,
  ⟨.call 70, [sp 11 12, qp 48], (.tup [sp 47 47, vp (.int .i64 3)])⟩,
  ⟨.call 23, [qp 48], (.val (vp (.int .i64 0)))⟩,
  ⟨.call 14, [], (.val (vp (.bool true)))⟩]

noncomputable def cl_widens_4 (la : List UInt8) (lb : List UInt8) (lc : List UInt8) (ld : List UInt8) (le : List UInt8) (lf : List UInt8) (lg : List UInt8) (xa : Rat) (xb : Rat) (xc : Rat) (xd : Rat) (xe : Rat) (xf : Rat) (g : Rat) (m : Nat) (n : Nat) : List Cl := [
  clV (str la),
  clV (str lb),
  clV (str lc),
  clV (str ld),
  clV (str le),
  clV (str lf),
  clV (.int .u8 (m : Int)),
  clV (.int .u8 (n : Int)),
  clV (str lg),
  clQ (xa) 121,
  clQ (xb) 121,
  clQ (lowOf (xa) [xb]) 242,
  clQ (highOf (xa) [xb]) 242,
  clQ (xc) 121,
  clQ (xd) 121,
  clQ (lowOf (xc) [xd]) 242,
  clQ (highOf (xc) [xd]) 242,
  clQ (xe) 121,
  clQ (xf) 121,
  clQ (lowOf (xe) [xf]) 242,
  clQ (highOf (xe) [xf]) 242,
  clQ (lowOf (lowOf (xa) [xb]) [highOf (xa) [xb], lowOf (xe) [xf], highOf (xe) [xf]]) 968,
  clQ (highOf (lowOf (xa) [xb]) [highOf (xa) [xb], lowOf (xe) [xf], highOf (xe) [xf]]) 968,
  clQ (wLow (fun r s => r + s) (lowOf (xa) [xb]) (highOf (xa) [xb]) (lowOf (xc) [xd]) (highOf (xc) [xd])) 1937,
  clQ (wHigh (fun r s => r + s) (lowOf (xa) [xb]) (highOf (xa) [xb]) (lowOf (xc) [xd]) (highOf (xc) [xd])) 1937,
  clQ (wLow (fun r s => r + s) (lowOf (lowOf (xa) [xb]) [highOf (xa) [xb], lowOf (xe) [xf], highOf (xe) [xf]]) (highOf (lowOf (xa) [xb]) [highOf (xa) [xb], lowOf (xe) [xf], highOf (xe) [xf]]) (lowOf (xc) [xd]) (highOf (xc) [xd])) 4841,
  clQ (wHigh (fun r s => r + s) (lowOf (lowOf (xa) [xb]) [highOf (xa) [xb], lowOf (xe) [xf], highOf (xe) [xf]]) (highOf (lowOf (xa) [xb]) [highOf (xa) [xb], lowOf (xe) [xf], highOf (xe) [xf]]) (lowOf (xc) [xd]) (highOf (xc) [xd])) 4841,
  clQ (wLow (fun r s => r - s) (lowOf (xa) [xb]) (highOf (xa) [xb]) (lowOf (xc) [xd]) (highOf (xc) [xd])) 1937,
  clQ (wHigh (fun r s => r - s) (lowOf (xa) [xb]) (highOf (xa) [xb]) (lowOf (xc) [xd]) (highOf (xc) [xd])) 1937,
  clQ (wLow (fun r s => r - s) (lowOf (lowOf (xa) [xb]) [highOf (xa) [xb], lowOf (xe) [xf], highOf (xe) [xf]]) (highOf (lowOf (xa) [xb]) [highOf (xa) [xb], lowOf (xe) [xf], highOf (xe) [xf]]) (lowOf (xc) [xd]) (highOf (xc) [xd])) 4841,
  clQ (wHigh (fun r s => r - s) (lowOf (lowOf (xa) [xb]) [highOf (xa) [xb], lowOf (xe) [xf], highOf (xe) [xf]]) (highOf (lowOf (xa) [xb]) [highOf (xa) [xb], lowOf (xe) [xf], highOf (xe) [xf]]) (lowOf (xc) [xd]) (highOf (xc) [xd])) 4841,
  clQ (wLow (fun r s => r * s) (lowOf (xa) [xb]) (highOf (xa) [xb]) (lowOf (xc) [xd]) (highOf (xc) [xd])) 1937,
  clQ (wHigh (fun r s => r * s) (lowOf (xa) [xb]) (highOf (xa) [xb]) (lowOf (xc) [xd]) (highOf (xc) [xd])) 1937,
  clQ (wLow (fun r s => r * s) (lowOf (lowOf (xa) [xb]) [highOf (xa) [xb], lowOf (xe) [xf], highOf (xe) [xf]]) (highOf (lowOf (xa) [xb]) [highOf (xa) [xb], lowOf (xe) [xf], highOf (xe) [xf]]) (lowOf (xc) [xd]) (highOf (xc) [xd])) 4841,
  clQ (wHigh (fun r s => r * s) (lowOf (lowOf (xa) [xb]) [highOf (xa) [xb], lowOf (xe) [xf], highOf (xe) [xf]]) (highOf (lowOf (xa) [xb]) [highOf (xa) [xb], lowOf (xe) [xf], highOf (xe) [xf]]) (lowOf (xc) [xd]) (highOf (xc) [xd])) 4841,
  clQ (wLow (fun r s => r * s) (lowOf (xc) [xd]) (highOf (xc) [xd]) (lowOf (xa) [xb]) (highOf (xa) [xb])) 1937,
  clQ (wHigh (fun r s => r * s) (lowOf (xc) [xd]) (highOf (xc) [xd]) (lowOf (xa) [xb]) (highOf (xa) [xb])) 1937,
  clQ (wLow (fun r s => r * s) (lowOf (xc) [xd]) (highOf (xc) [xd]) (lowOf (lowOf (xa) [xb]) [highOf (xa) [xb], lowOf (xe) [xf], highOf (xe) [xf]]) (highOf (lowOf (xa) [xb]) [highOf (xa) [xb], lowOf (xe) [xf], highOf (xe) [xf]])) 4841,
  clQ (wHigh (fun r s => r * s) (lowOf (xc) [xd]) (highOf (xc) [xd]) (lowOf (lowOf (xa) [xb]) [highOf (xa) [xb], lowOf (xe) [xf], highOf (xe) [xf]]) (highOf (lowOf (xa) [xb]) [highOf (xa) [xb], lowOf (xe) [xf], highOf (xe) [xf]])) 4841,
  clQ (lowOf ((lowOf (xa) [xb]) * (lowOf (xa) [xb])) (turnVals (hasQ (lowOf (xa) [xb]) (highOf (xa) [xb]) 0) ((highOf (xa) [xb]) * (highOf (xa) [xb])) (0 * 0))) 968,
  clQ (highOf ((lowOf (xa) [xb]) * (lowOf (xa) [xb])) (turnVals (hasQ (lowOf (xa) [xb]) (highOf (xa) [xb]) 0) ((highOf (xa) [xb]) * (highOf (xa) [xb])) (0 * 0))) 968,
  clQ (lowOf ((lowOf (lowOf (xa) [xb]) [highOf (xa) [xb], lowOf (xe) [xf], highOf (xe) [xf]]) * (lowOf (lowOf (xa) [xb]) [highOf (xa) [xb], lowOf (xe) [xf], highOf (xe) [xf]])) (turnVals (hasQ (lowOf (lowOf (xa) [xb]) [highOf (xa) [xb], lowOf (xe) [xf], highOf (xe) [xf]]) (highOf (lowOf (xa) [xb]) [highOf (xa) [xb], lowOf (xe) [xf], highOf (xe) [xf]]) 0) ((highOf (lowOf (xa) [xb]) [highOf (xa) [xb], lowOf (xe) [xf], highOf (xe) [xf]]) * (highOf (lowOf (xa) [xb]) [highOf (xa) [xb], lowOf (xe) [xf], highOf (xe) [xf]])) (0 * 0))) 3872,
  clQ (highOf ((lowOf (lowOf (xa) [xb]) [highOf (xa) [xb], lowOf (xe) [xf], highOf (xe) [xf]]) * (lowOf (lowOf (xa) [xb]) [highOf (xa) [xb], lowOf (xe) [xf], highOf (xe) [xf]])) (turnVals (hasQ (lowOf (lowOf (xa) [xb]) [highOf (xa) [xb], lowOf (xe) [xf], highOf (xe) [xf]]) (highOf (lowOf (xa) [xb]) [highOf (xa) [xb], lowOf (xe) [xf], highOf (xe) [xf]]) 0) ((highOf (lowOf (xa) [xb]) [highOf (xa) [xb], lowOf (xe) [xf], highOf (xe) [xf]]) * (highOf (lowOf (xa) [xb]) [highOf (xa) [xb], lowOf (xe) [xf], highOf (xe) [xf]])) (0 * 0))) 3872,
  clQ (lowOf (absQ (lowOf (xa) [xb])) (turnVals (hasQ (lowOf (xa) [xb]) (highOf (xa) [xb]) 0) (absQ (highOf (xa) [xb])) (absQ 0))) 968,
  clQ (highOf (absQ (lowOf (xa) [xb])) (turnVals (hasQ (lowOf (xa) [xb]) (highOf (xa) [xb]) 0) (absQ (highOf (xa) [xb])) (absQ 0))) 968,
  clQ (lowOf (absQ (lowOf (lowOf (xa) [xb]) [highOf (xa) [xb], lowOf (xe) [xf], highOf (xe) [xf]])) (turnVals (hasQ (lowOf (lowOf (xa) [xb]) [highOf (xa) [xb], lowOf (xe) [xf], highOf (xe) [xf]]) (highOf (lowOf (xa) [xb]) [highOf (xa) [xb], lowOf (xe) [xf], highOf (xe) [xf]]) 0) (absQ (highOf (lowOf (xa) [xb]) [highOf (xa) [xb], lowOf (xe) [xf], highOf (xe) [xf]])) (absQ 0))) 3872,
  clQ (highOf (absQ (lowOf (lowOf (xa) [xb]) [highOf (xa) [xb], lowOf (xe) [xf], highOf (xe) [xf]])) (turnVals (hasQ (lowOf (lowOf (xa) [xb]) [highOf (xa) [xb], lowOf (xe) [xf], highOf (xe) [xf]]) (highOf (lowOf (xa) [xb]) [highOf (xa) [xb], lowOf (xe) [xf], highOf (xe) [xf]]) 0) (absQ (highOf (lowOf (xa) [xb]) [highOf (xa) [xb], lowOf (xe) [xf], highOf (xe) [xf]])) (absQ 0))) 3872,
  clQ (0) 300000,
  clQ (g) 121,
  clQ (((Rat.floor (lowOf (lowOf (xa) [xb]) [highOf (xa) [xb]] * (g)⁻¹) : Int) : Rat) * (g)) 30002,
  clQ (((Rat.ceil (highOf (lowOf (xa) [xb]) [highOf (xa) [xb]] * (g)⁻¹) : Int) : Rat) * (g)) 30002,
  clQ ((((Rat.floor (lowOf (lowOf (xa) [xb]) [highOf (xa) [xb]] * (g)⁻¹) : Int) : Rat) * (g)) / (g)) 30123,
  clQ ((((Rat.ceil (highOf (lowOf (xa) [xb]) [highOf (xa) [xb]] * (g)⁻¹) : Int) : Rat) * (g)) / (g)) 30123,
  clQ (((Rat.floor ((((Rat.floor (lowOf (lowOf (xa) [xb]) [highOf (xa) [xb]] * (g)⁻¹) : Int) : Rat) * (g)) / (g)) : Int) : Rat)) 30125,
  clQ (((Rat.floor ((((Rat.ceil (highOf (lowOf (xa) [xb]) [highOf (xa) [xb]] * (g)⁻¹) : Int) : Rat) * (g)) / (g)) : Int) : Rat)) 30125,
  clQ ((((Rat.floor (lowOf (lowOf (xa) [xb]) [highOf (xa) [xb]] * (g)⁻¹) : Int) : Rat) * (g)) + (g)) 30124,
  clQ ((((Rat.ceil (highOf (lowOf (xa) [xb]) [highOf (xa) [xb]] * (g)⁻¹) : Int) : Rat) * (g)) - (g)) 30124]

def t_widens_4 : List Ent := [
  ⟨.call 27, [.slc 9 7 [.cls 0 1, .cls 1 1, .cls 2 1, .cls 3 1, .cls 4 1, .cls 5 1, .cls 8 1]], (.val (vp (.bool false)))⟩,
  ⟨.call 76, [op 0], (.val (qp 9))⟩,
  ⟨.call 76, [op 1], (.val (qp 10))⟩,
  ⟨.call 59, [qp 9, qp 10], (.val (sp 11 12))⟩,
  ⟨.call 76, [op 2], (.val (qp 13))⟩,
  ⟨.call 76, [op 3], (.val (qp 14))⟩,
  ⟨.call 59, [qp 13, qp 14], (.val (sp 15 16))⟩,
  ⟨.call 76, [op 4], (.val (qp 17))⟩,
  ⟨.call 76, [op 5], (.val (qp 18))⟩,
  ⟨.call 59, [qp 17, qp 18], (.val (sp 19 20))⟩,
  ⟨.call 57, [sp 11 12, sp 19 20], (.val (sp 21 22))⟩,
  ⟨.call 81, [sp 11 12, sp 21 22], (.val (vp (.bool true)))⟩,
  ⟨.call 51, [sp 11 12, sp 15 16], (.val (sp 23 24))⟩,
  ⟨.call 51, [sp 21 22, sp 15 16], (.val (sp 25 26))⟩,
  ⟨.call 81, [sp 23 24, sp 25 26], (.val (vp (.bool true)))⟩,
  ⟨.call 53, [sp 11 12, sp 15 16], (.val (sp 27 28))⟩,
  ⟨.call 53, [sp 21 22, sp 15 16], (.val (sp 29 30))⟩,
  ⟨.call 81, [sp 27 28, sp 29 30], (.val (vp (.bool true)))⟩,
  ⟨.call 55, [sp 11 12, sp 15 16], (.val (sp 31 32))⟩,
  ⟨.call 55, [sp 21 22, sp 15 16], (.val (sp 33 34))⟩,
  ⟨.call 81, [sp 31 32, sp 33 34], (.val (vp (.bool true)))⟩,
  ⟨.call 55, [sp 15 16, sp 11 12], (.val (sp 35 36))⟩,
  ⟨.call 55, [sp 15 16, sp 21 22], (.val (sp 37 38))⟩,
  ⟨.call 81, [sp 35 36, sp 37 38], (.val (vp (.bool true)))⟩,
  ⟨.call 62, [sp 11 12], (.val (sp 39 40))⟩,
  ⟨.call 62, [sp 21 22], (.val (sp 41 42))⟩,
  ⟨.call 81, [sp 39 40, sp 41 42], (.val (vp (.bool true)))⟩,
  ⟨.call 64, [sp 11 12], (.val (sp 43 44))⟩,
  ⟨.call 64, [sp 21 22], (.val (sp 45 46))⟩,
  ⟨.call 81, [sp 43 44, sp 45 46], (.val (vp (.bool true)))⟩,
  ⟨.call 68, [sp 15 16, sp 21 22], (.tup [sp 47 47, vp (.int .i64 10)])⟩,
  ⟨.call 76, [op 8], (.val (qp 48))⟩,
  ⟨.call 70, [sp 11 12, qp 48], (.tup [sp 49 50, vp (.int .i64 0)])⟩,
  ⟨.call 23, [qp 48], (.val (vp (.int .i64 1)))⟩,
  ⟨.call 38, [qp 49, qp 48], (.tup [qp 51, vp (.int .i64 0)])⟩,
  ⟨.call 38, [qp 50, qp 48], (.tup [qp 52, vp (.int .i64 0)])⟩,
  ⟨.call 45, [qp 51], (.val (qp 53))⟩,
  ⟨.call 77, [qp 53, qp 51], (.val (vp (.bool true)))⟩,
  ⟨.call 45, [qp 52], (.val (qp 54))⟩,
  ⟨.call 77, [qp 54, qp 52], (.val (vp (.bool true)))⟩,
  ⟨.call 81, [sp 11 12, sp 49 50], (.val (vp (.bool true)))⟩,
  ⟨.call 29, [qp 49, qp 48], (.val (qp 55))⟩,
  ⟨.call 35, [qp 11, qp 55], (.val (vp (.int .i64 (-1))))⟩,
  ⟨.call 31, [qp 50, qp 48], (.val (qp 56))⟩,
  ⟨.call 35, [qp 12, qp 56], (.val (vp (.int .i64 1)))⟩,
  ⟨.call 14, [], (.val (vp (.bool true)))⟩]

noncomputable def cl_widens_5 (la : List UInt8) (lb : List UInt8) (lc : List UInt8) (ld : List UInt8) (le : List UInt8) (lf : List UInt8) (lg : List UInt8) (xa : Rat) (xb : Rat) (xc : Rat) (xd : Rat) (xe : Rat) (xf : Rat) (g : Rat) (m : Nat) (n : Nat) : List Cl := [
  clV (str la),
  clV (str lb),
  clV (str lc),
  clV (str ld),
  clV (str le),
  clV (str lf),
  clV (.int .u8 (m : Int)),
  clV (.int .u8 (n : Int)),
  clV (str lg),
  clQ (xa) 121,
  clQ (xb) 121,
  clQ (lowOf (xa) [xb]) 242,
  clQ (highOf (xa) [xb]) 242,
  clQ (xc) 121,
  clQ (xd) 121,
  clQ (lowOf (xc) [xd]) 242,
  clQ (highOf (xc) [xd]) 242,
  clQ (xe) 121,
  clQ (xf) 121,
  clQ (lowOf (xe) [xf]) 242,
  clQ (highOf (xe) [xf]) 242,
  clQ (lowOf (lowOf (xa) [xb]) [highOf (xa) [xb], lowOf (xe) [xf], highOf (xe) [xf]]) 968,
  clQ (highOf (lowOf (xa) [xb]) [highOf (xa) [xb], lowOf (xe) [xf], highOf (xe) [xf]]) 968,
  clQ (wLow (fun r s => r + s) (lowOf (xa) [xb]) (highOf (xa) [xb]) (lowOf (xc) [xd]) (highOf (xc) [xd])) 1937,
  clQ (wHigh (fun r s => r + s) (lowOf (xa) [xb]) (highOf (xa) [xb]) (lowOf (xc) [xd]) (highOf (xc) [xd])) 1937,
  clQ (wLow (fun r s => r + s) (lowOf (lowOf (xa) [xb]) [highOf (xa) [xb], lowOf (xe) [xf], highOf (xe) [xf]]) (highOf (lowOf (xa) [xb]) [highOf (xa) [xb], lowOf (xe) [xf], highOf (xe) [xf]]) (lowOf (xc) [xd]) (highOf (xc) [xd])) 4841,
  clQ (wHigh (fun r s => r + s) (lowOf (lowOf (xa) [xb]) [highOf (xa) [xb], lowOf (xe) [xf], highOf (xe) [xf]]) (highOf (lowOf (xa) [xb]) [highOf (xa) [xb], lowOf (xe) [xf], highOf (xe) [xf]]) (lowOf (xc) [xd]) (highOf (xc) [xd])) 4841,
  clQ (wLow (fun r s => r - s) (lowOf (xa) [xb]) (highOf (xa) [xb]) (lowOf (xc) [xd]) (highOf (xc) [xd])) 1937,
  clQ (wHigh (fun r s => r - s) (lowOf (xa) [xb]) (highOf (xa) [xb]) (lowOf (xc) [xd]) (highOf (xc) [xd])) 1937,
  clQ (wLow (fun r s => r - s) (lowOf (lowOf (xa) [xb]) [highOf (xa) [xb], lowOf (xe) [xf], highOf (xe) [xf]]) (highOf (lowOf (xa) [xb]) [highOf (xa) [xb], lowOf (xe) [xf], highOf (xe) [xf]]) (lowOf (xc) [xd]) (highOf (xc) [xd])) 4841,
  clQ (wHigh (fun r s => r - s) (lowOf (lowOf (xa) [xb]) [highOf (xa) [xb], lowOf (xe) [xf], highOf (xe) [xf]]) (highOf (lowOf (xa) [xb]) [highOf (xa) [xb], lowOf (xe) [xf], highOf (xe) [xf]]) (lowOf (xc) [xd]) (highOf (xc) [xd])) 4841,
  clQ (wLow (fun r s => r * s) (lowOf (xa) [xb]) (highOf (xa) [xb]) (lowOf (xc) [xd]) (highOf (xc) [xd])) 1937,
  clQ (wHigh (fun r s => r * s) (lowOf (xa) [xb]) (highOf (xa) [xb]) (lowOf (xc) [xd]) (highOf (xc) [xd])) 1937,
  clQ (wLow (fun r s => r * s) (lowOf (lowOf (xa) [xb]) [highOf (xa) [xb], lowOf (xe) [xf], highOf (xe) [xf]]) (highOf (lowOf (xa) [xb]) [highOf (xa) [xb], lowOf (xe) [xf], highOf (xe) [xf]]) (lowOf (xc) [xd]) (highOf (xc) [xd])) 4841,
  clQ (wHigh (fun r s => r * s) (lowOf (lowOf (xa) [xb]) [highOf (xa) [xb], lowOf (xe) [xf], highOf (xe) [xf]]) (highOf (lowOf (xa) [xb]) [highOf (xa) [xb], lowOf (xe) [xf], highOf (xe) [xf]]) (lowOf (xc) [xd]) (highOf (xc) [xd])) 4841,
  clQ (wLow (fun r s => r * s) (lowOf (xc) [xd]) (highOf (xc) [xd]) (lowOf (xa) [xb]) (highOf (xa) [xb])) 1937,
  clQ (wHigh (fun r s => r * s) (lowOf (xc) [xd]) (highOf (xc) [xd]) (lowOf (xa) [xb]) (highOf (xa) [xb])) 1937,
  clQ (wLow (fun r s => r * s) (lowOf (xc) [xd]) (highOf (xc) [xd]) (lowOf (lowOf (xa) [xb]) [highOf (xa) [xb], lowOf (xe) [xf], highOf (xe) [xf]]) (highOf (lowOf (xa) [xb]) [highOf (xa) [xb], lowOf (xe) [xf], highOf (xe) [xf]])) 4841,
  clQ (wHigh (fun r s => r * s) (lowOf (xc) [xd]) (highOf (xc) [xd]) (lowOf (lowOf (xa) [xb]) [highOf (xa) [xb], lowOf (xe) [xf], highOf (xe) [xf]]) (highOf (lowOf (xa) [xb]) [highOf (xa) [xb], lowOf (xe) [xf], highOf (xe) [xf]])) 4841,
  clQ (lowOf ((lowOf (xa) [xb]) * (lowOf (xa) [xb])) (turnVals (hasQ (lowOf (xa) [xb]) (highOf (xa) [xb]) 0) ((highOf (xa) [xb]) * (highOf (xa) [xb])) (0 * 0))) 968,
  clQ (highOf ((lowOf (xa) [xb]) * (lowOf (xa) [xb])) (turnVals (hasQ (lowOf (xa) [xb]) (highOf (xa) [xb]) 0) ((highOf (xa) [xb]) * (highOf (xa) [xb])) (0 * 0))) 968,
  clQ (lowOf ((lowOf (lowOf (xa) [xb]) [highOf (xa) [xb], lowOf (xe) [xf], highOf (xe) [xf]]) * (lowOf (lowOf (xa) [xb]) [highOf (xa) [xb], lowOf (xe) [xf], highOf (xe) [xf]])) (turnVals (hasQ (lowOf (lowOf (xa) [xb]) [highOf (xa) [xb], lowOf (xe) [xf], highOf (xe) [xf]]) (highOf (lowOf (xa) [xb]) [highOf (xa) [xb], lowOf (xe) [xf], highOf (xe) [xf]]) 0) ((highOf (lowOf (xa) [xb]) [highOf (xa) [xb], lowOf (xe) [xf], highOf (xe) [xf]]) * (highOf (lowOf (xa) [xb]) [highOf (xa) [xb], lowOf (xe) [xf], highOf (xe) [xf]])) (0 * 0))) 3872,
  clQ (highOf ((lowOf (lowOf (xa) [xb]) [highOf (xa) [xb], lowOf (xe) [xf], highOf (xe) [xf]]) * (lowOf (lowOf (xa) [xb]) [highOf (xa) [xb], lowOf (xe) [xf], highOf (xe) [xf]])) (turnVals (hasQ (lowOf (lowOf (xa) [xb]) [highOf (xa) [xb], lowOf (xe) [xf], highOf (xe) [xf]]) (highOf (lowOf (xa) [xb]) [highOf (xa) [xb], lowOf (xe) [xf], highOf (xe) [xf]]) 0) ((highOf (lowOf (xa) [xb]) [highOf (xa) [xb], lowOf (xe) [xf], highOf (xe) [xf]]) * (highOf (lowOf (xa) [xb]) [highOf (xa) [xb], lowOf (xe) [xf], highOf (xe) [xf]])) (0 * 0))) 3872,
  clQ (lowOf (absQ (lowOf (xa) [xb])) (turnVals (hasQ (lowOf (xa) [xb]) (highOf (xa) [xb]) 0) (absQ (highOf (xa) [xb])) (absQ 0))) 968,
  clQ (highOf (absQ (lowOf (xa) [xb])) (turnVals (hasQ (lowOf (xa) [xb]) (highOf (xa) [xb]) 0) (absQ (highOf (xa) [xb])) (absQ 0))) 968,
  clQ (lowOf (absQ (lowOf (lowOf (xa) [xb]) [highOf (xa) [xb], lowOf (xe) [xf], highOf (xe) [xf]])) (turnVals (hasQ (lowOf (lowOf (xa) [xb]) [highOf (xa) [xb], lowOf (xe) [xf], highOf (xe) [xf]]) (highOf (lowOf (xa) [xb]) [highOf (xa) [xb], lowOf (xe) [xf], highOf (xe) [xf]]) 0) (absQ (highOf (lowOf (xa) [xb]) [highOf (xa) [xb], lowOf (xe) [xf], highOf (xe) [xf]])) (absQ 0))) 3872,
  clQ (highOf (absQ (lowOf (lowOf (xa) [xb]) [highOf (xa) [xb], lowOf (xe) [xf], highOf (xe) [xf]])) (turnVals (hasQ (lowOf (lowOf (xa) [xb]) [highOf (xa) [xb], lowOf (xe) [xf], highOf (xe) [xf]]) (highOf (lowOf (xa) [xb]) [highOf (xa) [xb], lowOf (xe) [xf], highOf (xe) [xf]]) 0) (absQ (highOf (lowOf (xa) [xb]) [highOf (xa) [xb], lowOf (xe) [xf], highOf (xe) [xf]])) (absQ 0))) 3872,
  clQ (wLow (fun r s => r * s⁻¹) (lowOf (xc) [xd]) (highOf (xc) [xd]) (lowOf (lowOf (xa) [xb]) [highOf (xa) [xb], lowOf (xe) [xf], highOf (xe) [xf]]) (highOf (lowOf (xa) [xb]) [highOf (xa) [xb], lowOf (xe) [xf], highOf (xe) [xf]])) 4841,
  clQ (wHigh (fun r s => r * s⁻¹) (lowOf (xc) [xd]) (highOf (xc) [xd]) (lowOf (lowOf (xa) [xb]) [highOf (xa) [xb], lowOf (xe) [xf], highOf (xe) [xf]]) (highOf (lowOf (xa) [xb]) [highOf (xa) [xb], lowOf (xe) [xf], highOf (xe) [xf]])) 4841,
  clQ (wLow (fun r s => r * s⁻¹) (lowOf (xc) [xd]) (highOf (xc) [xd]) (lowOf (xa) [xb]) (highOf (xa) [xb])) 1937,
  clQ (wHigh (fun r s => r * s⁻¹) (lowOf (xc) [xd]) (highOf (xc) [xd]) (lowOf (xa) [xb]) (highOf (xa) [xb])) 1937,
  clQ (g) 121,
  clQ (0) 300000]

def t_widens_5 : List Ent := [
  ⟨.call 27, [.slc 9 7 [.cls 0 1, .cls 1 1, .cls 2 1, .cls 3 1, .cls 4 1, .cls 5 1, .cls 8 1]], (.val (vp (.bool false)))⟩,
  ⟨.call 76, [op 0], (.val (qp 9))⟩,
  ⟨.call 76, [op 1], (.val (qp 10))⟩,
  ⟨.call 59, [qp 9, qp 10], (.val (sp 11 12))⟩,
  ⟨.call 76, [op 2], (.val (qp 13))⟩,
  ⟨.call 76, [op 3], (.val (qp 14))⟩,
  ⟨.call 59, [qp 13, qp 14], (.val (sp 15 16))⟩,
  ⟨.call 76, [op 4], (.val (qp 17))⟩,
  ⟨.call 76, [op 5], (.val (qp 18))⟩,
  ⟨.call 59, [qp 17, qp 18], (.val (sp 19 20))⟩,
  ⟨.call 57, [sp 11 12, sp 19 20], (.val (sp 21 22))⟩,
  ⟨.call 81, [sp 11 12, sp 21 22], (.val (vp (.bool true)))⟩,
  ⟨.call 51, [sp 11 12, sp 15 16], (.val (sp 23 24))⟩,
  ⟨.call 51, [sp 21 22, sp 15 16], (.val (sp 25 26))⟩,
  ⟨.call 81, [sp 23 24, sp 25 26], (.val (vp (.bool true)))⟩,
  ⟨.call 53, [sp 11 12, sp 15 16], (.val (sp 27 28))⟩,
  ⟨.call 53, [sp 21 22, sp 15 16], (.val (sp 29 30))⟩,
  ⟨.call 81, [sp 27 28, sp 29 30], (.val (vp (.bool true)))⟩,
  ⟨.call 55, [sp 11 12, sp 15 16], (.val (sp 31 32))⟩,
  ⟨.call 55, [sp 21 22, sp 15 16], (.val (sp 33 34))⟩,
  ⟨.call 81, [sp 31 32, sp 33 34], (.val (vp (.bool true)))⟩,
  ⟨.call 55, [sp 15 16, sp 11 12], (.val (sp 35 36))⟩,
  ⟨.call 55, [sp 15 16, sp 21 22], (.val (sp 37 38))⟩,
  ⟨.call 81, [sp 35 36, sp 37 38], (.val (vp (.bool true)))⟩,
  ⟨.call 62, [sp 11 12], (.val (sp 39 40))⟩,
  ⟨.call 62, [sp 21 22], (.val (sp 41 42))⟩,
  ⟨.call 81, [sp 39 40, sp 41 42], (.val (vp (.bool true)))⟩,
  ⟨.call 64, [sp 11 12], (.val (sp 43 44))⟩,
  ⟨.call 64, [sp 21 22], (.val (sp 45 46))⟩,
  ⟨.call 81, [sp 43 44, sp 45 46], (.val (vp (.bool true)))⟩,
  ⟨.call 68, [sp 15 16, sp 21 22], (.tup [sp 47 48, vp (.int .i64 0)])⟩,
  ⟨.call 68, [sp 15 16, sp 11 12], (.tup [sp 49 50, vp (.int .i64 0)])⟩,
  ⟨.call 81, [sp 49 50, sp 47 48], (.val (vp (.bool true)))⟩,
  ⟨.call 76, [op 8], (.val (qp 51))⟩,
  ⟨.call 70, [sp 11 12, qp 51], (.tup [sp 52 52, vp (.int .i64 3)])⟩,
  ⟨.call 23, [qp 51], (.val (vp (.int .i64 (-1))))⟩,
  ⟨.call 14, [], (.val (vp (.bool true)))⟩]

noncomputable def cl_widens_6 (la : List UInt8) (lb : List UInt8) (lc : List UInt8) (ld : List UInt8) (le : List UInt8) (lf : List UInt8) (lg : List UInt8) (xa : Rat) (xb : Rat) (xc : Rat) (xd : Rat) (xe : Rat) (xf : Rat) (g : Rat) (m : Nat) (n : Nat) : List Cl := [
  clV (str la),
  clV (str lb),
  clV (str lc),
  clV (str ld),
  clV (str le),
  clV (str lf),
  clV (.int .u8 (m : Int)),
  clV (.int .u8 (n : Int)),
  clV (str lg),
  clQ (xa) 121,
  clQ (xb) 121,
  clQ (lowOf (xa) [xb]) 242,
  clQ (highOf (xa) [xb]) 242,
  clQ (xc) 121,
  clQ (xd) 121,
  clQ (lowOf (xc) [xd]) 242,
  clQ (highOf (xc) [xd]) 242,
  clQ (xe) 121,
  clQ (xf) 121,
  clQ (lowOf (xe) [xf]) 242,
  clQ (highOf (xe) [xf]) 242,
  clQ (lowOf (lowOf (xa) [xb]) [highOf (xa) [xb], lowOf (xe) [xf], highOf (xe) [xf]]) 968,
  clQ (highOf (lowOf (xa) [xb]) [highOf (xa) [xb], lowOf (xe) [xf], highOf (xe) [xf]]) 968,
  clQ (wLow (fun r s => r + s) (lowOf (xa) [xb]) (highOf (xa) [xb]) (lowOf (xc) [xd]) (highOf (xc) [xd])) 1937,
  clQ (wHigh (fun r s => r + s) (lowOf (xa) [xb]) (highOf (xa) [xb]) (lowOf (xc) [xd]) (highOf (xc) [xd])) 1937,
  clQ (wLow (fun r s => r + s) (lowOf (lowOf (xa) [xb]) [highOf (xa) [xb], lowOf (xe) [xf], highOf (xe) [xf]]) (highOf (lowOf (xa) [xb]) [highOf (xa) [xb], lowOf (xe) [xf], highOf (xe) [xf]]) (lowOf (xc) [xd]) (highOf (xc) [xd])) 4841,
  clQ (wHigh (fun r s => r + s) (lowOf (lowOf (xa) [xb]) [highOf (xa) [xb], lowOf (xe) [xf], highOf (xe) [xf]]) (highOf (lowOf (xa) [xb]) [highOf (xa) [xb], lowOf (xe) [xf], highOf (xe) [xf]]) (lowOf (xc) [xd]) (highOf (xc) [xd])) 4841,
  clQ (wLow (fun r s => r - s) (lowOf (xa) [xb]) (highOf (xa) [xb]) (lowOf (xc) [xd]) (highOf (xc) [xd])) 1937,
  clQ (wHigh (fun r s => r - s) (lowOf (xa) [xb]) (highOf (xa) [xb]) (lowOf (xc) [xd]) (highOf (xc) [xd])) 1937,
  clQ (wLow (fun r s => r - s) (lowOf (lowOf (xa) [xb]) [highOf (xa) [xb], lowOf (xe) [xf], highOf (xe) [xf]]) (highOf (lowOf (xa) [xb]) [highOf (xa) [xb], lowOf (xe) [xf], highOf (xe) [xf]]) (lowOf (xc) [xd]) (highOf (xc) [xd])) 4841,
  clQ (wHigh (fun r s => r - s) (lowOf (lowOf (xa) [xb]) [highOf (xa) [xb], lowOf (xe) [xf], highOf (xe) [xf]]) (highOf (lowOf (xa) [xb]) [highOf (xa) [xb], lowOf (xe) [xf], highOf (xe) [xf]]) (lowOf (xc) [xd]) (highOf (xc) [xd])) 4841,
  clQ (wLow (fun r s => r * s) (lowOf (xa) [xb]) (highOf (xa) [xb]) (lowOf (xc) [xd]) (highOf (xc) [xd])) 1937,
  clQ (wHigh (fun r s => r * s) (lowOf (xa) [xb]) (highOf (xa) [xb]) (lowOf (xc) [xd]) (highOf (xc) [xd])) 1937,
  clQ (wLow (fun r s => r * s) (lowOf (lowOf (xa) [xb]) [highOf (xa) [xb], lowOf (xe) [xf], highOf (xe) [xf]]) (highOf (lowOf (xa) [xb]) [highOf (xa) [xb], lowOf (xe) [xf], highOf (xe) [xf]]) (lowOf (xc) [xd]) (highOf (xc) [xd])) 4841,
  clQ (wHigh (fun r s => r * s) (lowOf (lowOf (xa) [xb]) [highOf (xa) [xb], lowOf (xe) [xf], highOf (xe) [xf]]) (highOf (lowOf (xa) [xb]) [highOf (xa) [xb], lowOf (xe) [xf], highOf (xe) [xf]]) (lowOf (xc) [xd]) (highOf (xc) [xd])) 4841,
  clQ (wLow (fun r s => r * s) (lowOf (xc) [xd]) (highOf (xc) [xd]) (lowOf (xa) [xb]) (highOf (xa) [xb])) 1937,
  clQ (wHigh (fun r s => r * s) (lowOf (xc) [xd]) (highOf (xc) [xd]) (lowOf (xa) [xb]) (highOf (xa) [xb])) 1937,
  clQ (wLow (fun r s => r * s) (lowOf (xc) [xd]) (highOf (xc) [xd]) (lowOf (lowOf (xa) [xb]) [highOf (xa) [xb], lowOf (xe) [xf], highOf (xe) [xf]]) (highOf (lowOf (xa) [xb]) [highOf (xa) [xb], lowOf (xe) [xf], highOf (xe) [xf]])) 4841,
  clQ (wHigh (fun r s => r * s) (lowOf (xc) [xd]) (highOf (xc) [xd]) (lowOf (lowOf (xa) [xb]) [highOf (xa) [xb], lowOf (xe) [xf], highOf (xe) [xf]]) (highOf (lowOf (xa) [xb]) [highOf (xa) [xb], lowOf (xe) [xf], highOf (xe) [xf]])) 4841,
  clQ (lowOf ((lowOf (xa) [xb]) * (lowOf (xa) [xb])) (turnVals (hasQ (lowOf (xa) [xb]) (highOf (xa) [xb]) 0) ((highOf (xa) [xb]) * (highOf (xa) [xb])) (0 * 0))) 968,
  clQ (highOf ((lowOf (xa) [xb]) * (lowOf (xa) [xb])) (turnVals (hasQ (lowOf (xa) [xb]) (highOf (xa) [xb]) 0) ((highOf (xa) [xb]) * (highOf (xa) [xb])) (0 * 0))) 968,
  clQ (lowOf ((lowOf (lowOf (xa) [xb]) [highOf (xa) [xb], lowOf (xe) [xf], highOf (xe) [xf]]) * (lowOf (lowOf (xa) [xb]) [highOf (xa) [xb], lowOf (xe) [xf], highOf (xe) [xf]])) (turnVals (hasQ (lowOf (lowOf (xa) [xb]) [highOf (xa) [xb], lowOf (xe) [xf], highOf (xe) [xf]]) (highOf (lowOf (xa) [xb]) [highOf (xa) [xb], lowOf (xe) [xf], highOf (xe) [xf]]) 0) ((highOf (lowOf (xa) [xb]) [highOf (xa) [xb], lowOf (xe) [xf], highOf (xe) [xf]]) * (highOf (lowOf (xa) [xb]) [highOf (xa) [xb], lowOf (xe) [xf], highOf (xe) [xf]])) (0 * 0))) 3872,
  clQ (highOf ((lowOf (lowOf (xa) [xb]) [highOf (xa) [xb], lowOf (xe) [xf], highOf (xe) [xf]]) * (lowOf (lowOf (xa) [xb]) [highOf (xa) [xb], lowOf (xe) [xf], highOf (xe) [xf]])) (turnVals (hasQ (lowOf (lowOf (xa) [xb]) [highOf (xa) [xb], lowOf (xe) [xf], highOf (xe) [xf]]) (highOf (lowOf (xa) [xb]) [highOf (xa) [xb], lowOf (xe) [xf], highOf (xe) [xf]]) 0) ((highOf (lowOf (xa) [xb]) [highOf (xa) [xb], lowOf (xe) [xf], highOf (xe) [xf]]) * (highOf (lowOf (xa) [xb]) [highOf (xa) [xb], lowOf (xe) [xf], highOf (xe) [xf]])) (0 * 0))) 3872,
  clQ (lowOf (absQ (lowOf (xa) [xb])) (turnVals (hasQ (lowOf (xa) [xb]) (highOf (xa) [xb]) 0) (absQ (highOf (xa) [xb])) (absQ 0))) 968,
  clQ (highOf (absQ (lowOf (xa) [xb])) (turnVals (hasQ (lowOf (xa) [xb]) (highOf (xa) [xb]) 0) (absQ (highOf (xa) [xb])) (absQ 0))) 968,
  clQ (lowOf (absQ (lowOf (lowOf (xa) [xb]) [highOf (xa) [xb], lowOf (xe) [xf], highOf (xe) [xf]])) (turnVals (hasQ (lowOf (lowOf (xa) [xb]) [highOf (xa) [xb], lowOf (xe) [xf], highOf (xe) [xf]]) (highOf (lowOf (xa) [xb]) [highOf (xa) [xb], lowOf (xe) [xf], highOf (xe) [xf]]) 0) (absQ (highOf (lowOf (xa) [xb]) [highOf (xa) [xb], lowOf (xe) [xf], highOf (xe) [xf]])) (absQ 0))) 3872,
  clQ (highOf (absQ (lowOf (lowOf (xa) [xb]) [highOf (xa) [xb], lowOf (xe) [xf], highOf (xe) [xf]])) (turnVals (hasQ (lowOf (lowOf (xa) [xb]) [highOf (xa) [xb], lowOf (xe) [xf], highOf (xe) [xf]]) (highOf (lowOf (xa) [xb]) [highOf (xa) [xb], lowOf (xe) [xf], highOf (xe) [xf]]) 0) (absQ (highOf (lowOf (xa) [xb]) [highOf (xa) [xb], lowOf (xe) [xf], highOf (xe) [xf]])) (absQ 0))) 3872,
  clQ (wLow (fun r s => r * s⁻¹) (lowOf (xc) [xd]) (highOf (xc) [xd]) (lowOf (lowOf (xa) [xb]) [highOf (xa) [xb], lowOf (xe) [xf], highOf (xe) [xf]]) (highOf (lowOf (xa) [xb]) [highOf (xa) [xb], lowOf (xe) [xf], highOf (xe) [xf]])) 4841,
  clQ (wHigh (fun r s => r * s⁻¹) (lowOf (xc) [xd]) (highOf (xc) [xd]) (lowOf (lowOf (xa) [xb]) [highOf (xa) [xb], lowOf (xe) [xf], highOf (xe) [xf]]) (highOf (lowOf (xa) [xb]) [highOf (xa) [xb], lowOf (xe) [xf], highOf (xe) [xf]])) 4841,
  clQ (wLow (fun r s => r * s⁻¹) (lowOf (xc) [xd]) (highOf (xc) [xd]) (lowOf (xa) [xb]) (highOf (xa) [xb])) 1937,
  clQ (wHigh (fun r s => r * s⁻¹) (lowOf (xc) [xd]) (highOf (xc) [xd]) (lowOf (xa) [xb]) (highOf (xa) [xb])) 1937,
  clQ (g) 121,
  clQ (0) 300000]

def t_widens_6 : List Ent := [
  ⟨.call 27, [.slc 9 7 [.cls 0 1, .cls 1 1, .cls 2 1, .cls 3 1, .cls 4 1, .cls 5 1, .cls 8 1]], (.val (vp (.bool false)))⟩,
  ⟨.call 76, [op 0], (.val (qp 9))⟩,
  ⟨.call 76, [op 1], (.val (qp 10))⟩,
  ⟨.call 59, [qp 9, qp 10], (.val (sp 11 12))⟩,
  ⟨.call 76, [op 2], (.val (qp 13))⟩,
  ⟨.call 76, [op 3], (.val (qp 14))⟩,
  ⟨.call 59, [qp 13, qp 14], (.val (sp 15 16))⟩,
  ⟨.call 76, [op 4], (.val (qp 17))⟩,
  ⟨.call 76, [op 5], (.val (qp 18))⟩,
  ⟨.call 59, [qp 17, qp 18], (.val (sp 19 20))⟩,
  ⟨.call 57, [sp 11 12, sp 19 20], (.val (sp 21 22))⟩,
  ⟨.call 81, [sp 11 12, sp 21 22], (.val (vp (.bool true)))⟩,
  ⟨.call 51, [sp 11 12, sp 15 16], (.val (sp 23 24))⟩,
  ⟨.call 51, [sp 21 22, sp 15 16], (.val (sp 25 26))⟩,
  ⟨.call 81, [sp 23 24, sp 25 26], (.val (vp (.bool true)))⟩,
  ⟨.call 53, [sp 11 12, sp 15 16], (.val (sp 27 28))⟩,
  ⟨.call 53, [sp 21 22, sp 15 16], (.val (sp 29 30))⟩,
  ⟨.call 81, [sp 27 28, sp 29 30], (.val (vp (.bool true)))⟩,
  ⟨.call 55, [sp 11 12, sp 15 16], (.val (sp 31 32))⟩,
  ⟨.call 55, [sp 21 22, sp 15 16], (.val (sp 33 34))⟩,
  ⟨.call 81, [sp 31 32, sp 33 34], (.val (vp (.bool true)))⟩,
  ⟨.call 55, [sp 15 16, sp 11 12], (.val (sp 35 36))⟩,
  ⟨.call 55, [sp 15 16, sp 21 22], (.val (sp 37 38))⟩,
  ⟨.call 81, [sp 35 36, sp 37 38], (.val (vp (.bool true)))⟩,
  ⟨.call 62, [sp 11 12], (.val (sp 39 40))⟩,
  ⟨.call 62, [sp 21 22], (.val (sp 41 42))⟩,
  ⟨.call 81, [sp 39 40, sp 41 42], (.val (vp (.bool true)))⟩,
  ⟨.call 64, [sp 11 12], (.val (sp 43 44))⟩,
  ⟨.call 64, [sp 21 22], (.val (sp 45 46))⟩,
  ⟨.call 81, [sp 43 44, sp 45 46], (.val (vp (.bool true)))⟩,
  ⟨.call 68, [sp 15 16, sp 21 22], (.tup [sp 47 48, vp (.int .i64 0)])⟩,
  ⟨.call 68, [sp 15 16, sp 11 12], (.tup [sp 49 50, vp (.int .i64 0)])⟩,
  ⟨.call 81, [sp 49 50, sp 47 48], (.val (vp (.bool true)))⟩,
  ⟨.call 76, [op 8], (.val (qp 51))⟩,
  ⟨.call 70, [sp 11 12, qp 51], (.tup [sp 52 52, vp (.int .i64 3)])⟩,
  ⟨.call 23, [qp 51], (.val (vp (.int .i64 0)))⟩,
  ⟨.call 14, [], (.val (vp (.bool true)))⟩]

noncomputable def cl_widens_7 (la : List UInt8) (lb : List UInt8) (lc : List UInt8) (ld : List UInt8) (le : List UInt8) (lf : List UInt8) (lg : List UInt8) (xa : Rat) (xb : Rat) (xc : Rat) (xd : Rat) (xe : Rat) (xf : Rat) (g : Rat) (m : Nat) (n : Nat) : List Cl := [
  clV (str la),
  clV (str lb),
  clV (str lc),
  clV (str ld),
  clV (str le),
  clV (str lf),
  clV (.int .u8 (m : Int)),
  clV (.int .u8 (n : Int)),
  clV (str lg),
  clQ (xa) 121,
  clQ (xb) 121,
  clQ (lowOf (xa) [xb]) 242,
  clQ (highOf (xa) [xb]) 242,
  clQ (xc) 121,
  clQ (xd) 121,
  clQ (lowOf (xc) [xd]) 242,
  clQ (highOf (xc) [xd]) 242,
  clQ (xe) 121,
  clQ (xf) 121,
  clQ (lowOf (xe) [xf]) 242,
  clQ (highOf (xe) [xf]) 242,
  clQ (lowOf (lowOf (xa) [xb]) [highOf (xa) [xb], lowOf (xe) [xf], highOf (xe) [xf]]) 968,
  clQ (highOf (lowOf (xa) [xb]) [highOf (xa) [xb], lowOf (xe) [xf], highOf (xe) [xf]]) 968,
  clQ (wLow (fun r s => r + s) (lowOf (xa) [xb]) (highOf (xa) [xb]) (lowOf (xc) [xd]) (highOf (xc) [xd])) 1937,
  clQ (wHigh (fun r s => r + s) (lowOf (xa) [xb]) (highOf (xa) [xb]) (lowOf (xc) [xd]) (highOf (xc) [xd])) 1937,
  clQ (wLow (fun r s => r + s) (lowOf (lowOf (xa) [xb]) [highOf (xa) [xb], lowOf (xe) [xf], highOf (xe) [xf]]) (highOf (lowOf (xa) [xb]) [highOf (xa) [xb], lowOf (xe) [xf], highOf (xe) [xf]]) (lowOf (xc) [xd]) (highOf (xc) [xd])) 4841,
  clQ (wHigh (fun r s => r + s) (lowOf (lowOf (xa) [xb]) [highOf (xa) [xb], lowOf (xe) [xf], highOf (xe) [xf]]) (highOf (lowOf (xa) [xb]) [highOf (xa) [xb], lowOf (xe) [xf], highOf (xe) [xf]]) (lowOf (xc) [xd]) (highOf (xc) [xd])) 4841,
  clQ (wLow (fun r s => r - s) (lowOf (xa) [xb]) (highOf (xa) [xb]) (lowOf (xc) [xd]) (highOf (xc) [xd])) 1937,
  clQ (wHigh (fun r s => r - s) (lowOf (xa) [xb]) (highOf (xa) [xb]) (lowOf (xc) [xd]) (highOf (xc) [xd])) 1937,
  clQ (wLow (fun r s => r - s) (lowOf (lowOf (xa) [xb]) [highOf (xa) [xb], lowOf (xe) [xf], highOf (xe) [xf]]) (highOf (lowOf (xa) [xb]) [highOf (xa) [xb], lowOf (xe) [xf], highOf (xe) [xf]]) (lowOf (xc) [xd]) (highOf (xc) [xd])) 4841,
  clQ (wHigh (fun r s => r - s) (lowOf (lowOf (xa) [xb]) [highOf (xa) [xb], lowOf (xe) [xf], highOf (xe) [xf]]) (highOf (lowOf (xa) [xb]) [highOf (xa) [xb], lowOf (xe) [xf], highOf (xe) [xf]]) (lowOf (xc) [xd]) (highOf (xc) [xd])) 4841,
  clQ (wLow (fun r s => r * s) (lowOf (xa) [xb]) (highOf (xa) [xb]) (lowOf (xc) [xd]) (highOf (xc) [xd])) 1937,
  clQ (wHigh (fun r s => r * s) (lowOf (xa) [xb]) (highOf (xa) [xb]) (lowOf (xc) [xd]) (highOf (xc) [xd])) 1937,
  clQ (wLow (fun r s => r * s) (lowOf (lowOf (xa) [xb]) [highOf (xa) [xb], lowOf (xe) [xf], highOf (xe) [xf]]) (highOf (lowOf (xa) [xb]) [highOf (xa) [xb], lowOf (xe) [xf], highOf (xe) [xf]]) (lowOf (xc) [xd]) (highOf (xc) [xd])) 4841,
  clQ (wHigh (fun r s => r * s) (lowOf (lowOf (xa) [xb]) [highOf (xa) [xb], lowOf (xe) [xf], highOf (xe) [xf]]) (highOf (lowOf (xa) [xb]) [highOf (xa) [xb], lowOf (xe) [xf], highOf (xe) [xf]]) (lowOf (xc) [xd]) (highOf (xc) [xd])) 4841,
  clQ (wLow (fun r s => r * s) (lowOf (xc) [xd]) (highOf (xc) [xd]) (lowOf (xa) [xb]) (highOf (xa) [xb])) 1937,
  clQ (wHigh (fun r s => r * s) (lowOf (xc) [xd]) (highOf (xc) [xd]) (lowOf (xa) [xb]) (highOf (xa) [xb])) 1937,
  clQ (wLow (fun r s => r * s) (lowOf (xc) [xd]) (highOf (xc) [xd]) (lowOf (lowOf (xa) [xb]) [highOf (xa) [xb], lowOf (xe) [xf], highOf (xe) [xf]]) (highOf (lowOf (xa) [xb]) [highOf (xa) [xb], lowOf (xe) [xf], highOf (xe) [xf]])) 4841,
  clQ (wHigh (fun r s => r * s) (lowOf (xc) [xd]) (highOf (xc) [xd]) (lowOf (lowOf (xa) [xb]) [highOf (xa) [xb], lowOf (xe) [xf], highOf (xe) [xf]]) (highOf (lowOf (xa) [xb]) [highOf (xa) [xb], lowOf (xe) [xf], highOf (xe) [xf]])) 4841,
  clQ (lowOf ((lowOf (xa) [xb]) * (lowOf (xa) [xb])) (turnVals (hasQ (lowOf (xa) [xb]) (highOf (xa) [xb]) 0) ((highOf (xa) [xb]) * (highOf (xa) [xb])) (0 * 0))) 968,
  clQ (highOf ((lowOf (xa) [xb]) * (lowOf (xa) [xb])) (turnVals (hasQ (lowOf (xa) [xb]) (highOf (xa) [xb]) 0) ((highOf (xa) [xb]) * (highOf (xa) [xb])) (0 * 0))) 968,
  clQ (lowOf ((lowOf (lowOf (xa) [xb]) [highOf (xa) [xb], lowOf (xe) [xf], highOf (xe) [xf]]) * (lowOf (lowOf (xa) [xb]) [highOf (xa) [xb], lowOf (xe) [xf], highOf (xe) [xf]])) (turnVals (hasQ (lowOf (lowOf (xa) [xb]) [highOf (xa) [xb], lowOf (xe) [xf], highOf (xe) [xf]]) (highOf (lowOf (xa) [xb]) [highOf (xa) [xb], lowOf (xe) [xf], highOf (xe) [xf]]) 0) ((highOf (lowOf (xa) [xb]) [highOf (xa) [xb], lowOf (xe) [xf], highOf (xe) [xf]]) * (highOf (lowOf (xa) [xb]) [highOf (xa) [xb], lowOf (xe) [xf], highOf (xe) [xf]])) (0 * 0))) 3872,
  clQ (highOf ((lowOf (lowOf (xa) [xb]) [highOf (xa) [xb], lowOf (xe) [xf], highOf (xe) [xf]]) * (lowOf (lowOf (xa) [xb]) [highOf (xa) [xb], lowOf (xe) [xf], highOf (xe) [xf]])) (turnVals (hasQ (lowOf (lowOf (xa) [xb]) [highOf (xa) [xb], lowOf (xe) [xf], highOf (xe) [xf]]) (highOf (lowOf (xa) [xb]) [highOf (xa) [xb], lowOf (xe) [xf], highOf (xe) [xf]]) 0) ((highOf (lowOf (xa) [xb]) [highOf (xa) [xb], lowOf (xe) [xf], highOf (xe) [xf]]) * (highOf (lowOf (xa) [xb]) [highOf (xa) [xb], lowOf (xe) [xf], highOf (xe) [xf]])) (0 * 0))) 3872,
  clQ (lowOf (absQ (lowOf (xa) [xb])) (turnVals (hasQ (lowOf (xa) [xb]) (highOf (xa) [xb]) 0) (absQ (highOf (xa) [xb])) (absQ 0))) 968,
  clQ (highOf (absQ (lowOf (xa) [xb])) (turnVals (hasQ (lowOf (xa) [xb]) (highOf (xa) [xb]) 0) (absQ (highOf (xa) [xb])) (absQ 0))) 968,
  clQ (lowOf (absQ (lowOf (lowOf (xa) [xb]) [highOf (xa) [xb], lowOf (xe) [xf], highOf (xe) [xf]])) (turnVals (hasQ (lowOf (lowOf (xa) [xb]) [highOf (xa) [xb], lowOf (xe) [xf], highOf (xe) [xf]]) (highOf (lowOf (xa) [xb]) [highOf (xa) [xb], lowOf (xe) [xf], highOf (xe) [xf]]) 0) (absQ (highOf (lowOf (xa) [xb]) [highOf (xa) [xb], lowOf (xe) [xf], highOf (xe) [xf]])) (absQ 0))) 3872,
  clQ (highOf (absQ (lowOf (lowOf (xa) [xb]) [highOf (xa) [xb], lowOf (xe) [xf], highOf (xe) [xf]])) (turnVals (hasQ (lowOf (lowOf (xa) [xb]) [highOf (xa) [xb], lowOf (xe) [xf], highOf (xe) [xf]]) (highOf (lowOf (xa) [xb]) [highOf (xa) [xb], lowOf (xe) [xf], highOf (xe) [xf]]) 0) (absQ (highOf (lowOf (xa) [xb]) [highOf (xa) [xb], lowOf (xe) [xf], highOf (xe) [xf]])) (absQ 0))) 3872,
  clQ (wLow (fun r s => r * s⁻¹) (lowOf (xc) [xd]) (highOf (xc) [xd]) (lowOf (lowOf (xa) [xb]) [highOf (xa) [xb], lowOf (xe) [xf], highOf (xe) [xf]]) (highOf (lowOf (xa) [xb]) [highOf (xa) [xb], lowOf (xe) [xf], highOf (xe) [xf]])) 4841,
  clQ (wHigh (fun r s => r * s⁻¹) (lowOf (xc) [xd]) (highOf (xc) [xd]) (lowOf (lowOf (xa) [xb]) [highOf (xa) [xb], lowOf (xe) [xf], highOf (xe) [xf]]) (highOf (lowOf (xa) [xb]) [highOf (xa) [xb], lowOf (xe) [xf], highOf (xe) [xf]])) 4841,
  clQ (wLow (fun r s => r * s⁻¹) (lowOf (xc) [xd]) (highOf (xc) [xd]) (lowOf (xa) [xb]) (highOf (xa) [xb])) 1937,
  clQ (wHigh (fun r s => r * s⁻¹) (lowOf (xc) [xd]) (highOf (xc) [xd]) (lowOf (xa) [xb]) (highOf (xa) [xb])) 1937,
  clQ (g) 121,
  clQ (((Rat.floor (lowOf (lowOf (xa) [xb]) [highOf (xa) [xb]] * (g)⁻¹) : Int) : Rat) * (g)) 30002,
  clQ (((Rat.ceil (highOf (lowOf (xa) [xb]) [highOf (xa) [xb]] * (g)⁻¹) : Int) : Rat) * (g)) 30002,
  clQ ((((Rat.floor (lowOf (lowOf (xa) [xb]) [highOf (xa) [xb]] * (g)⁻¹) : Int) : Rat) * (g)) / (g)) 30123,
  clQ ((((Rat.ceil (highOf (lowOf (xa) [xb]) [highOf (xa) [xb]] * (g)⁻¹) : Int) : Rat) * (g)) / (g)) 30123,
  clQ (((Rat.floor ((((Rat.floor (lowOf (lowOf (xa) [xb]) [highOf (xa) [xb]] * (g)⁻¹) : Int) : Rat) * (g)) / (g)) : Int) : Rat)) 30125,
  clQ (((Rat.floor ((((Rat.ceil (highOf (lowOf (xa) [xb]) [highOf (xa) [xb]] * (g)⁻¹) : Int) : Rat) * (g)) / (g)) : Int) : Rat)) 30125,
  clQ ((((Rat.floor (lowOf (lowOf (xa) [xb]) [highOf (xa) [xb]] * (g)⁻¹) : Int) : Rat) * (g)) + (g)) 30124,
  clQ ((((Rat.ceil (highOf (lowOf (xa) [xb]) [highOf (xa) [xb]] * (g)⁻¹) : Int) : Rat) * (g)) - (g)) 30124]

def t_widens_7 : List Ent := [
  ⟨.call 27, [.slc 9 7 [.cls 0 1, .cls 1 1, .cls 2 1, .cls 3 1, .cls 4 1, .cls 5 1, .cls 8 1]], (.val (vp (.bool false)))⟩,
  ⟨.call 76, [op 0], (.val (qp 9))⟩,
  ⟨.call 76, [op 1], (.val (qp 10))⟩,
  ⟨.call 59, [qp 9, qp 10], (.val (sp 11 12))⟩,
  ⟨.call 76, [op 2], (.val (qp 13))⟩,
  ⟨.call 76, [op 3], (.val (qp 14))⟩,
  ⟨.call 59, [qp 13, qp 14], (.val (sp 15 16))⟩,
  ⟨.call 76, [op 4], (.val (qp 17))⟩,
  ⟨.call 76, [op 5], (.val (qp 18))⟩,
  ⟨.call 59, [qp 17, qp 18], (.val (sp 19 20))⟩,
  ⟨.call 57, [sp 11 12, sp 19 20], (.val (sp 21 22))⟩,
  ⟨.call 81, [sp 11 12, sp 21 22], (.val (vp (.bool true)))⟩,
  ⟨.call 51, [sp 11 12, sp 15 16], (.val (sp 23 24))⟩,
  ⟨.call 51, [sp 21 22, sp 15 16], (.val (sp 25 26))⟩,
  ⟨.call 81, [sp 23 24, sp 25 26], (.val (vp (.bool true)))⟩,
  ⟨.call 53, [sp 11 12, sp 15 16], (.val (sp 27 28))⟩,
  ⟨.call 53, [sp 21 22, sp 15 16], (.val (sp 29 30))⟩,
  ⟨.call 81, [sp 27 28, sp 29 30], (.val (vp (.bool true)))⟩,
  ⟨.call 55, [sp 11 12, sp 15 16], (.val (sp 31 32))⟩,
  ⟨.call 55, [sp 21 22, sp 15 16], (.val (sp 33 34))⟩,
  ⟨.call 81, [sp 31 32, sp 33 34], (.val (vp (.bool true)))⟩,
  ⟨.call 55, [sp 15 16, sp 11 12], (.val (sp 35 36))⟩,
  ⟨.call 55, [sp 15 16, sp 21 22], (.val (sp 37 38))⟩,
  ⟨.call 81, [sp 35 36, sp 37 38], (.val (vp (.bool true)))⟩,
  ⟨.call 62, [sp 11 12], (.val (sp 39 40))⟩,
  ⟨.call 62, [sp 21 22], (.val (sp 41 42))⟩,
  ⟨.call 81, [sp 39 40, sp 41 42], (.val (vp (.bool true)))⟩,
  ⟨.call 64, [sp 11 12], (.val (sp 43 44))⟩,
  ⟨.call 64, [sp 21 22], (.val (sp 45 46))⟩,
  ⟨.call 81, [sp 43 44, sp 45 46], (.val (vp (.bool true)))⟩,
  ⟨.call 68, [sp 15 16, sp 21 22], (.tup [sp 47 48, vp (.int .i64 0)])⟩,
  ⟨.call 68, [sp 15 16, sp 11 12], (.tup [sp 49 50, vp (.int .i64 0)])⟩,
  ⟨.call 81, [sp 49 50, sp 47 48], (.val (vp (.bool true)))⟩,
  ⟨.call 76, [op 8], (.val (qp 51))⟩,
  ⟨.call 70, [sp 11 12, qp 51], (.tup [sp 52 53, vp (.int .i64 0)])⟩,
  ⟨.call 23, [qp 51], (.val (vp (.int .i64 1)))⟩,
  ⟨.call 38, [qp 52, qp 51], (.tup [qp 54, vp (.int .i64 0)])⟩,
  ⟨.call 38, [qp 53, qp 51], (.tup [qp 55, vp (.int .i64 0)])⟩,
  ⟨.call 45, [qp 54], (.val (qp 56))⟩,
  ⟨.call 77, [qp 56, qp 54], (.val (vp (.bool true)))⟩,
  ⟨.call 45, [qp 55], (.val (qp 57))⟩,
  ⟨.call 77, [qp 57, qp 55], (.val (vp (.bool true)))⟩,
  ⟨.call 81, [sp 11 12, sp 52 53], (.val (vp (.bool true)))⟩,
  ⟨.call 29, [qp 52, qp 51], (.val (qp 58))⟩,
  ⟨.call 35, [qp 11, qp 58], (.val (vp (.int .i64 (-1))))⟩,
  ⟨.call 31, [qp 53, qp 51], (.val (qp 59))⟩,
  ⟨.call 35, [qp 12, qp 59], (.val (vp (.int .i64 1)))⟩,
  ⟨.call 14, [], (.val (vp (.bool true)))⟩]

set_option maxRecDepth 100000 in
set_option maxHeartbeats 4000000 in
theorem widens_walk (la lb lc ld le lf lg : List UInt8) (m n : Nat) (hm : m ≤ 255) (hn : n ≤ 255) (w : World) (hG : Gr w) :
    Calls Tryz.prog 12 #[.agg #[str la, str lb, str lc, str ld, str le, str lf, .int .u8 (m : Int), .int .u8 (n : Int), str lg]] w (Go.Proofs.YtnolcmoecodeaaaGreatDoor.Val w (.bool true)) := by
  obtain ⟨xa, hxa⟩ : ∃ x, (readQ la).1 = x := ⟨_, rfl⟩
  obtain ⟨xb, hxb⟩ : ∃ x, (readQ lb).1 = x := ⟨_, rfl⟩
  obtain ⟨xc, hxc⟩ : ∃ x, (readQ lc).1 = x := ⟨_, rfl⟩
  obtain ⟨xd, hxd⟩ : ∃ x, (readQ ld).1 = x := ⟨_, rfl⟩
  obtain ⟨xe, hxe⟩ : ∃ x, (readQ le).1 = x := ⟨_, rfl⟩
  obtain ⟨xf, hxf⟩ : ∃ x, (readQ lf).1 = x := ⟨_, rfl⟩
  obtain ⟨g, hg⟩ : ∃ x, (readQ lg).1 = x := ⟨_, rfl⟩
  have ha : Btw (lowOf (lowOf (xa) [xb]) [highOf (xa) [xb], lowOf (xe) [xf], highOf (xe) [xf]]) (highOf (lowOf (xa) [xb]) [highOf (xa) [xb], lowOf (xe) [xf], highOf (xe) [xf]]) (lowOf (xa) [xb]) := hull_low (Btw.left _ _)
  have hb : Btw (lowOf (lowOf (xa) [xb]) [highOf (xa) [xb], lowOf (xe) [xf], highOf (xe) [xf]]) (highOf (lowOf (xa) [xb]) [highOf (xa) [xb], lowOf (xe) [xf], highOf (xe) [xf]]) (highOf (xa) [xb]) := hull_low (Btw.right _ _)
  have hle : (lowOf (xa) [xb]) ≤ (highOf (xa) [xb]) := low_le_high _ _
  cases h1 : [la, lb, lc, ld, le, lf, lg].any (fun x => decide (120 < x.length)) with
  | true =>
    have hC : (mkC [1, 1, 1, 1, 1, 1, 1, 1, 1] [true, true, true, true, true, true, true, true, true] [26, 66, 64, 104] 230 (cl_widens_1 la lb lc ld le lf lg xa xb xc xd xe xf g m n) w).Ok := mkC_ok (oks_cons (clV_ok rfl) <| oks_cons (clV_ok rfl) <| oks_cons (clV_ok rfl) <| oks_cons (clV_ok rfl) <| oks_cons (clV_ok rfl) <| oks_cons (clV_ok rfl) <| oks_cons (clV_ok rfl) <| oks_cons (clV_ok rfl) <| oks_cons (clV_ok rfl) <| oks_nil) rfl rfl
    have hT : ∀ t ∈ t_widens_1, t.Valid (mkC [1, 1, 1, 1, 1, 1, 1, 1, 1] [true, true, true, true, true, true, true, true, true] [26, 66, 64, 104] 230 (cl_widens_1 la lb lc ld le lf lg xa xb xc xd xe xf g m n) w) :=
      forall_cons (e_long (ls := [la, lb, lc, ld, le, lf, lg]) ⟨_, _, rfl, rfl, ⟨_, _, rfl, rfl, ⟨_, _, rfl, rfl, ⟨_, _, rfl, rfl, ⟨_, _, rfl, rfl, ⟨_, _, rfl, rfl, ⟨_, _, rfl, rfl, rfl⟩⟩⟩⟩⟩⟩⟩ rfl rfl h1) <|
      forall_cons (e_known hG) <|
      forall_nil
    refine Calls.mono (run_mk hC hT 12 Tryz.f12 [.agg [.cls 0 1, .cls 1 1, .cls 2 1, .cls 3 1, .cls 4 1, .cls 5 1, .cls 6 1, .cls 7 1, .cls 8 1]] (.val (vp (.bool true))) 200 Tryz.func12 rfl rfl rfl (by kernel_rfl) [.agg #[str la, str lb, str lc, str ld, str le, str lf, .int .u8 (m : Int), .int .u8 (n : Int), str lg]] ⟨_, _, rfl, ⟨_, ⟨[str la], _, rfl, ⟨fun _ => str la, rfl, rfl⟩, ⟨[str lb], _, rfl, ⟨fun _ => str lb, rfl, rfl⟩, ⟨[str lc], _, rfl, ⟨fun _ => str lc, rfl, rfl⟩, ⟨[str ld], _, rfl, ⟨fun _ => str ld, rfl, rfl⟩, ⟨[str le], _, rfl, ⟨fun _ => str le, rfl, rfl⟩, ⟨[str lf], _, rfl, ⟨fun _ => str lf, rfl, rfl⟩, ⟨[.int .u8 (m : Int)], _, rfl, ⟨fun _ => .int .u8 (m : Int), rfl, rfl⟩, ⟨[.int .u8 (n : Int)], _, rfl, ⟨fun _ => .int .u8 (n : Int), rfl, rfl⟩, ⟨[str lg], _, rfl, ⟨fun _ => str lg, rfl, rfl⟩, rfl⟩⟩⟩⟩⟩⟩⟩⟩⟩, rfl⟩, rfl⟩) ?_
    rintro e w' ⟨v, rfl, hv, hb⟩; obtain rfl := val_of hv; exact ⟨rfl, hb⟩
  | false =>
    cases h2 : hasQ (lowOf (lowOf (xa) [xb]) [highOf (xa) [xb], lowOf (xe) [xf], highOf (xe) [xf]]) (highOf (lowOf (xa) [xb]) [highOf (xa) [xb], lowOf (xe) [xf], highOf (xe) [xf]]) (0) with
    | true =>
      rcases sign3 (g) with h3 | h3 | h3
      · skip
        have hC : (mkC [1, 1, 1, 1, 1, 1, 1, 1, 1, 4, 4, 4, 4, 4, 4, 4, 4, 4, 4, 4, 4, 4, 4, 4, 4, 4, 4, 4, 4, 4, 4, 4, 4, 4, 4, 4, 4, 4, 4, 4, 4, 4, 4, 4, 4, 4, 4, 4, 4] [true, true, true, true, true, true, true, true, true, true, true, true, true, true, true, true, true, true, true, true, true, true, true, true, true, true, true, true, true, true, true, true, true, true, true, true, true, true, true, true, true, true, true, true, true, true, true, true, true] [26, 66, 64, 104] 230 (cl_widens_2 la lb lc ld le lf lg xa xb xc xd xe xf g m n) w).Ok := mkC_ok (oks_cons (clV_ok rfl) <| oks_cons (clV_ok rfl) <| oks_cons (clV_ok rfl) <| oks_cons (clV_ok rfl) <| oks_cons (clV_ok rfl) <| oks_cons (clV_ok rfl) <| oks_cons (clV_ok rfl) <| oks_cons (clV_ok rfl) <| oks_cons (clV_ok rfl) <| oks_cons (clQ_ok (by decide) _ _) <| oks_cons (clQ_ok (by decide) _ _) <| oks_cons (clQ_ok (by decide) _ _) <| oks_cons (clQ_ok (by decide) _ _) <| oks_cons (clQ_ok (by decide) _ _) <| oks_cons (clQ_ok (by decide) _ _) <| oks_cons (clQ_ok (by decide) _ _) <| oks_cons (clQ_ok (by decide) _ _) <| oks_cons (clQ_ok (by decide) _ _) <| oks_cons (clQ_ok (by decide) _ _) <| oks_cons (clQ_ok (by decide) _ _) <| oks_cons (clQ_ok (by decide) _ _) <| oks_cons (clQ_ok (by decide) _ _) <| oks_cons (clQ_ok (by decide) _ _) <| oks_cons (clQ_ok (by decide) _ _) <| oks_cons (clQ_ok (by decide) _ _) <| oks_cons (clQ_ok (by decide) _ _) <| oks_cons (clQ_ok (by decide) _ _) <| oks_cons (clQ_ok (by decide) _ _) <| oks_cons (clQ_ok (by decide) _ _) <| oks_cons (clQ_ok (by decide) _ _) <| oks_cons (clQ_ok (by decide) _ _) <| oks_cons (clQ_ok (by decide) _ _) <| oks_cons (clQ_ok (by decide) _ _) <| oks_cons (clQ_ok (by decide) _ _) <| oks_cons (clQ_ok (by decide) _ _) <| oks_cons (clQ_ok (by decide) _ _) <| oks_cons (clQ_ok (by decide) _ _) <| oks_cons (clQ_ok (by decide) _ _) <| oks_cons (clQ_ok (by decide) _ _) <| oks_cons (clQ_ok (by decide) _ _) <| oks_cons (clQ_ok (by decide) _ _) <| oks_cons (clQ_ok (by decide) _ _) <| oks_cons (clQ_ok (by decide) _ _) <| oks_cons (clQ_ok (by decide) _ _) <| oks_cons (clQ_ok (by decide) _ _) <| oks_cons (clQ_ok (by decide) _ _) <| oks_cons (clQ_ok (by decide) _ _) <| oks_cons (clQ_ok (by decide) _ _) <| oks_cons (clQ_ok (by decide) _ _) <| oks_nil) rfl rfl
        have hT : ∀ t ∈ t_widens_2, t.Valid (mkC [1, 1, 1, 1, 1, 1, 1, 1, 1, 4, 4, 4, 4, 4, 4, 4, 4, 4, 4, 4, 4, 4, 4, 4, 4, 4, 4, 4, 4, 4, 4, 4, 4, 4, 4, 4, 4, 4, 4, 4, 4, 4, 4, 4, 4, 4, 4, 4, 4] [true, true, true, true, true, true, true, true, true, true, true, true, true, true, true, true, true, true, true, true, true, true, true, true, true, true, true, true, true, true, true, true, true, true, true, true, true, true, true, true, true, true, true, true, true, true, true, true, true] [26, 66, 64, 104] 230 (cl_widens_2 la lb lc ld le lf lg xa xb xc xd xe xf g m n) w) :=
          forall_cons (e_long (ls := [la, lb, lc, ld, le, lf, lg]) ⟨_, _, rfl, rfl, ⟨_, _, rfl, rfl, ⟨_, _, rfl, rfl, ⟨_, _, rfl, rfl, ⟨_, _, rfl, rfl, ⟨_, _, rfl, rfl, ⟨_, _, rfl, rfl, rfl⟩⟩⟩⟩⟩⟩⟩ rfl rfl h1) <|
          forall_cons (e_number' hG rfl hxa rfl (long_lens h1 la (by simp)) rfl rfl) <|
          forall_cons (e_number' hG rfl hxb rfl (long_lens h1 lb (by simp)) rfl rfl) <|
          forall_cons (e_between (pq rfl) (pq rfl) rfl rfl rfl rfl) <|
          forall_cons (e_number' hG rfl hxc rfl (long_lens h1 lc (by simp)) rfl rfl) <|
          forall_cons (e_number' hG rfl hxd rfl (long_lens h1 ld (by simp)) rfl rfl) <|
          forall_cons (e_between (pq rfl) (pq rfl) rfl rfl rfl rfl) <|
          forall_cons (e_number' hG rfl hxe rfl (long_lens h1 le (by simp)) rfl rfl) <|
          forall_cons (e_number' hG rfl hxf rfl (long_lens h1 lf (by simp)) rfl rfl) <|
          forall_cons (e_between (pq rfl) (pq rfl) rfl rfl rfl rfl) <|
          forall_cons (e_hull (ps rfl rfl) (ps rfl rfl) rfl rfl rfl rfl) <|
          forall_cons (e_inside (ps rfl rfl) (ps rfl rfl) rfl (and_has ha hb)) <|
          forall_cons (e_spplus hG (ps rfl rfl) (ps rfl rfl) rfl rfl rfl rfl) <|
          forall_cons (e_spplus hG (ps rfl rfl) (ps rfl rfl) rfl rfl rfl rfl) <|
          forall_cons (e_inside (ps rfl rfl) (ps rfl rfl) rfl (wide_plus ha hb (Btw.left _ _) (Btw.right _ _))) <|
          forall_cons (e_spminus hG (ps rfl rfl) (ps rfl rfl) rfl rfl rfl rfl) <|
          forall_cons (e_spminus hG (ps rfl rfl) (ps rfl rfl) rfl rfl rfl rfl) <|
          forall_cons (e_inside (ps rfl rfl) (ps rfl rfl) rfl (wide_minus ha hb (Btw.left _ _) (Btw.right _ _))) <|
          forall_cons (e_sptimes hG (ps rfl rfl) (ps rfl rfl) rfl rfl rfl rfl) <|
          forall_cons (e_sptimes hG (ps rfl rfl) (ps rfl rfl) rfl rfl rfl rfl) <|
          forall_cons (e_inside (ps rfl rfl) (ps rfl rfl) rfl (wide_times ha hb (Btw.left _ _) (Btw.right _ _))) <|
          forall_cons (e_sptimes hG (ps rfl rfl) (ps rfl rfl) rfl rfl rfl rfl) <|
          forall_cons (e_sptimes hG (ps rfl rfl) (ps rfl rfl) rfl rfl rfl rfl) <|
          forall_cons (e_inside (ps rfl rfl) (ps rfl rfl) rfl (wide_times (Btw.left _ _) (Btw.right _ _) ha hb)) <|
          forall_cons (e_square hG (ps rfl rfl) rfl rfl rfl rfl) <|
          forall_cons (e_square hG (ps rfl rfl) rfl rfl rfl rfl) <|
          forall_cons (e_inside (ps rfl rfl) (ps rfl rfl) rfl (wide_square ha hb)) <|
          forall_cons (e_spabs hG (ps rfl rfl) rfl rfl rfl rfl) <|
          forall_cons (e_spabs hG (ps rfl rfl) rfl rfl rfl rfl) <|
          forall_cons (e_inside (ps rfl rfl) (ps rfl rfl) rfl (wide_abs ha hb)) <|
          forall_cons (e_spover0 (ps rfl rfl) (ps rfl rfl) rfl rfl h2) <|
          forall_cons (e_number' hG rfl hg rfl (long_lens h1 lg (by simp)) rfl rfl) <|
          forall_cons (e_out0 hG (ps rfl rfl) (pq rfl) rfl rfl rfl (by rw [h3]; decide)) <|
          forall_cons (e_sign (pq rfl) h3) <|
          forall_cons (e_known hG) <|
          forall_nil
        refine Calls.mono (run_mk hC hT 12 Tryz.f12 [.agg [.cls 0 1, .cls 1 1, .cls 2 1, .cls 3 1, .cls 4 1, .cls 5 1, .cls 6 1, .cls 7 1, .cls 8 1]] (.val (vp (.bool true))) 200 Tryz.func12 rfl rfl rfl (by kernel_rfl) [.agg #[str la, str lb, str lc, str ld, str le, str lf, .int .u8 (m : Int), .int .u8 (n : Int), str lg]] ⟨_, _, rfl, ⟨_, ⟨[str la], _, rfl, ⟨fun _ => str la, rfl, rfl⟩, ⟨[str lb], _, rfl, ⟨fun _ => str lb, rfl, rfl⟩, ⟨[str lc], _, rfl, ⟨fun _ => str lc, rfl, rfl⟩, ⟨[str ld], _, rfl, ⟨fun _ => str ld, rfl, rfl⟩, ⟨[str le], _, rfl, ⟨fun _ => str le, rfl, rfl⟩, ⟨[str lf], _, rfl, ⟨fun _ => str lf, rfl, rfl⟩, ⟨[.int .u8 (m : Int)], _, rfl, ⟨fun _ => .int .u8 (m : Int), rfl, rfl⟩, ⟨[.int .u8 (n : Int)], _, rfl, ⟨fun _ => .int .u8 (n : Int), rfl, rfl⟩, ⟨[str lg], _, rfl, ⟨fun _ => str lg, rfl, rfl⟩, rfl⟩⟩⟩⟩⟩⟩⟩⟩⟩, rfl⟩, rfl⟩) ?_
        rintro e w' ⟨v, rfl, hv, hb⟩; obtain rfl := val_of hv; exact ⟨rfl, hb⟩
      · skip
        have hC : (mkC [1, 1, 1, 1, 1, 1, 1, 1, 1, 4, 4, 4, 4, 4, 4, 4, 4, 4, 4, 4, 4, 4, 4, 4, 4, 4, 4, 4, 4, 4, 4, 4, 4, 4, 4, 4, 4, 4, 4, 4, 4, 4, 4, 4, 4, 4, 4, 4, 4] [true, true, true, true, true, true, true, true, true, true, true, true, true, true, true, true, true, true, true, true, true, true, true, true, true, true, true, true, true, true, true, true, true, true, true, true, true, true, true, true, true, true, true, true, true, true, true, true, true] [26, 66, 64, 104] 230 (cl_widens_3 la lb lc ld le lf lg xa xb xc xd xe xf g m n) w).Ok := mkC_ok (oks_cons (clV_ok rfl) <| oks_cons (clV_ok rfl) <| oks_cons (clV_ok rfl) <| oks_cons (clV_ok rfl) <| oks_cons (clV_ok rfl) <| oks_cons (clV_ok rfl) <| oks_cons (clV_ok rfl) <| oks_cons (clV_ok rfl) <| oks_cons (clV_ok rfl) <| oks_cons (clQ_ok (by decide) _ _) <| oks_cons (clQ_ok (by decide) _ _) <| oks_cons (clQ_ok (by decide) _ _) <| oks_cons (clQ_ok (by decide) _ _) <| oks_cons (clQ_ok (by decide) _ _) <| oks_cons (clQ_ok (by decide) _ _) <| oks_cons (clQ_ok (by decide) _ _) <| oks_cons (clQ_ok (by decide) _ _) <| oks_cons (clQ_ok (by decide) _ _) <| oks_cons (clQ_ok (by decide) _ _) <| oks_cons (clQ_ok (by decide) _ _) <| oks_cons (clQ_ok (by decide) _ _) <| oks_cons (clQ_ok (by decide) _ _) <| oks_cons (clQ_ok (by decide) _ _) <| oks_cons (clQ_ok (by decide) _ _) <| oks_cons (clQ_ok (by decide) _ _) <| oks_cons (clQ_ok (by decide) _ _) <| oks_cons (clQ_ok (by decide) _ _) <| oks_cons (clQ_ok (by decide) _ _) <| oks_cons (clQ_ok (by decide) _ _) <| oks_cons (clQ_ok (by decide) _ _) <| oks_cons (clQ_ok (by decide) _ _) <| oks_cons (clQ_ok (by decide) _ _) <| oks_cons (clQ_ok (by decide) _ _) <| oks_cons (clQ_ok (by decide) _ _) <| oks_cons (clQ_ok (by decide) _ _) <| oks_cons (clQ_ok (by decide) _ _) <| oks_cons (clQ_ok (by decide) _ _) <| oks_cons (clQ_ok (by decide) _ _) <| oks_cons (clQ_ok (by decide) _ _) <| oks_cons (clQ_ok (by decide) _ _) <| oks_cons (clQ_ok (by decide) _ _) <| oks_cons (clQ_ok (by decide) _ _) <| oks_cons (clQ_ok (by decide) _ _) <| oks_cons (clQ_ok (by decide) _ _) <| oks_cons (clQ_ok (by decide) _ _) <| oks_cons (clQ_ok (by decide) _ _) <| oks_cons (clQ_ok (by decide) _ _) <| oks_cons (clQ_ok (by decide) _ _) <| oks_cons (clQ_ok (by decide) _ _) <| oks_nil) rfl rfl
        have hT : ∀ t ∈ t_widens_3, t.Valid (mkC [1, 1, 1, 1, 1, 1, 1, 1, 1, 4, 4, 4, 4, 4, 4, 4, 4, 4, 4, 4, 4, 4, 4, 4, 4, 4, 4, 4, 4, 4, 4, 4, 4, 4, 4, 4, 4, 4, 4, 4, 4, 4, 4, 4, 4, 4, 4, 4, 4] [true, true, true, true, true, true, true, true, true, true, true, true, true, true, true, true, true, true, true, true, true, true, true, true, true, true, true, true, true, true, true, true, true, true, true, true, true, true, true, true, true, true, true, true, true, true, true, true, true] [26, 66, 64, 104] 230 (cl_widens_3 la lb lc ld le lf lg xa xb xc xd xe xf g m n) w) :=
          forall_cons (e_long (ls := [la, lb, lc, ld, le, lf, lg]) ⟨_, _, rfl, rfl, ⟨_, _, rfl, rfl, ⟨_, _, rfl, rfl, ⟨_, _, rfl, rfl, ⟨_, _, rfl, rfl, ⟨_, _, rfl, rfl, ⟨_, _, rfl, rfl, rfl⟩⟩⟩⟩⟩⟩⟩ rfl rfl h1) <|
          forall_cons (e_number' hG rfl hxa rfl (long_lens h1 la (by simp)) rfl rfl) <|
          forall_cons (e_number' hG rfl hxb rfl (long_lens h1 lb (by simp)) rfl rfl) <|
          forall_cons (e_between (pq rfl) (pq rfl) rfl rfl rfl rfl) <|
          forall_cons (e_number' hG rfl hxc rfl (long_lens h1 lc (by simp)) rfl rfl) <|
          forall_cons (e_number' hG rfl hxd rfl (long_lens h1 ld (by simp)) rfl rfl) <|
          forall_cons (e_between (pq rfl) (pq rfl) rfl rfl rfl rfl) <|
          forall_cons (e_number' hG rfl hxe rfl (long_lens h1 le (by simp)) rfl rfl) <|
          forall_cons (e_number' hG rfl hxf rfl (long_lens h1 lf (by simp)) rfl rfl) <|
          forall_cons (e_between (pq rfl) (pq rfl) rfl rfl rfl rfl) <|
          forall_cons (e_hull (ps rfl rfl) (ps rfl rfl) rfl rfl rfl rfl) <|
          forall_cons (e_inside (ps rfl rfl) (ps rfl rfl) rfl (and_has ha hb)) <|
          forall_cons (e_spplus hG (ps rfl rfl) (ps rfl rfl) rfl rfl rfl rfl) <|
          forall_cons (e_spplus hG (ps rfl rfl) (ps rfl rfl) rfl rfl rfl rfl) <|
          forall_cons (e_inside (ps rfl rfl) (ps rfl rfl) rfl (wide_plus ha hb (Btw.left _ _) (Btw.right _ _))) <|
          forall_cons (e_spminus hG (ps rfl rfl) (ps rfl rfl) rfl rfl rfl rfl) <|
          forall_cons (e_spminus hG (ps rfl rfl) (ps rfl rfl) rfl rfl rfl rfl) <|
          forall_cons (e_inside (ps rfl rfl) (ps rfl rfl) rfl (wide_minus ha hb (Btw.left _ _) (Btw.right _ _))) <|
          forall_cons (e_sptimes hG (ps rfl rfl) (ps rfl rfl) rfl rfl rfl rfl) <|
          forall_cons (e_sptimes hG (ps rfl rfl) (ps rfl rfl) rfl rfl rfl rfl) <|
          forall_cons (e_inside (ps rfl rfl) (ps rfl rfl) rfl (wide_times ha hb (Btw.left _ _) (Btw.right _ _))) <|
          forall_cons (e_sptimes hG (ps rfl rfl) (ps rfl rfl) rfl rfl rfl rfl) <|
          forall_cons (e_sptimes hG (ps rfl rfl) (ps rfl rfl) rfl rfl rfl rfl) <|
          forall_cons (e_inside (ps rfl rfl) (ps rfl rfl) rfl (wide_times (Btw.left _ _) (Btw.right _ _) ha hb)) <|
          forall_cons (e_square hG (ps rfl rfl) rfl rfl rfl rfl) <|
          forall_cons (e_square hG (ps rfl rfl) rfl rfl rfl rfl) <|
          forall_cons (e_inside (ps rfl rfl) (ps rfl rfl) rfl (wide_square ha hb)) <|
          forall_cons (e_spabs hG (ps rfl rfl) rfl rfl rfl rfl) <|
          forall_cons (e_spabs hG (ps rfl rfl) rfl rfl rfl rfl) <|
          forall_cons (e_inside (ps rfl rfl) (ps rfl rfl) rfl (wide_abs ha hb)) <|
          forall_cons (e_spover0 (ps rfl rfl) (ps rfl rfl) rfl rfl h2) <|
          forall_cons (e_number' hG rfl hg rfl (long_lens h1 lg (by simp)) rfl rfl) <|
          forall_cons (e_out0 hG (ps rfl rfl) (pq rfl) rfl rfl rfl (by rw [h3]; decide)) <|
          forall_cons (e_sign (pq rfl) h3) <|
          forall_cons (e_known hG) <|
          forall_nil
        refine Calls.mono (run_mk hC hT 12 Tryz.f12 [.agg [.cls 0 1, .cls 1 1, .cls 2 1, .cls 3 1, .cls 4 1, .cls 5 1, .cls 6 1, .cls 7 1, .cls 8 1]] (.val (vp (.bool true))) 200 Tryz.func12 rfl rfl rfl (by kernel_rfl) [.agg #[str la, str lb, str lc, str ld, str le, str lf, .int .u8 (m : Int), .int .u8 (n : Int), str lg]] ⟨_, _, rfl, ⟨_, ⟨[str la], _, rfl, ⟨fun _ => str la, rfl, rfl⟩, ⟨[str lb], _, rfl, ⟨fun _ => str lb, rfl, rfl⟩, ⟨[str lc], _, rfl, ⟨fun _ => str lc, rfl, rfl⟩, ⟨[str ld], _, rfl, ⟨fun _ => str ld, rfl, rfl⟩, ⟨[str le], _, rfl, ⟨fun _ => str le, rfl, rfl⟩, ⟨[str lf], _, rfl, ⟨fun _ => str lf, rfl, rfl⟩, ⟨[.int .u8 (m : Int)], _, rfl, ⟨fun _ => .int .u8 (m : Int), rfl, rfl⟩, ⟨[.int .u8 (n : Int)], _, rfl, ⟨fun _ => .int .u8 (n : Int), rfl, rfl⟩, ⟨[str lg], _, rfl, ⟨fun _ => str lg, rfl, rfl⟩, rfl⟩⟩⟩⟩⟩⟩⟩⟩⟩, rfl⟩, rfl⟩) ?_
        rintro e w' ⟨v, rfl, hv, hb⟩; obtain rfl := val_of hv; exact ⟨rfl, hb⟩
      · skip
        have hC : (mkC [1, 1, 1, 1, 1, 1, 1, 1, 1, 4, 4, 4, 4, 4, 4, 4, 4, 4, 4, 4, 4, 4, 4, 4, 4, 4, 4, 4, 4, 4, 4, 4, 4, 4, 4, 4, 4, 4, 4, 4, 4, 4, 4, 4, 4, 4, 4, 4, 4, 4, 4, 4, 4, 4, 4, 4, 4] [true, true, true, true, true, true, true, true, true, true, true, true, true, true, true, true, true, true, true, true, true, true, true, true, true, true, true, true, true, true, true, true, true, true, true, true, true, true, true, true, true, true, true, true, true, true, true, true, true, true, true, true, true, true, true, true, true] [26, 66, 64, 104] 230 (cl_widens_4 la lb lc ld le lf lg xa xb xc xd xe xf g m n) w).Ok := mkC_ok (oks_cons (clV_ok rfl) <| oks_cons (clV_ok rfl) <| oks_cons (clV_ok rfl) <| oks_cons (clV_ok rfl) <| oks_cons (clV_ok rfl) <| oks_cons (clV_ok rfl) <| oks_cons (clV_ok rfl) <| oks_cons (clV_ok rfl) <| oks_cons (clV_ok rfl) <| oks_cons (clQ_ok (by decide) _ _) <| oks_cons (clQ_ok (by decide) _ _) <| oks_cons (clQ_ok (by decide) _ _) <| oks_cons (clQ_ok (by decide) _ _) <| oks_cons (clQ_ok (by decide) _ _) <| oks_cons (clQ_ok (by decide) _ _) <| oks_cons (clQ_ok (by decide) _ _) <| oks_cons (clQ_ok (by decide) _ _) <| oks_cons (clQ_ok (by decide) _ _) <| oks_cons (clQ_ok (by decide) _ _) <| oks_cons (clQ_ok (by decide) _ _) <| oks_cons (clQ_ok (by decide) _ _) <| oks_cons (clQ_ok (by decide) _ _) <| oks_cons (clQ_ok (by decide) _ _) <| oks_cons (clQ_ok (by decide) _ _) <| oks_cons (clQ_ok (by decide) _ _) <| oks_cons (clQ_ok (by decide) _ _) <| oks_cons (clQ_ok (by decide) _ _) <| oks_cons (clQ_ok (by decide) _ _) <| oks_cons (clQ_ok (by decide) _ _) <| oks_cons (clQ_ok (by decide) _ _) <| oks_cons (clQ_ok (by decide) _ _) <| oks_cons (clQ_ok (by decide) _ _) <| oks_cons (clQ_ok (by decide) _ _) <| oks_cons (clQ_ok (by decide) _ _) <| oks_cons (clQ_ok (by decide) _ _) <| oks_cons (clQ_ok (by decide) _ _) <| oks_cons (clQ_ok (by decide) _ _) <| oks_cons (clQ_ok (by decide) _ _) <| oks_cons (clQ_ok (by decide) _ _) <| oks_cons (clQ_ok (by decide) _ _) <| oks_cons (clQ_ok (by decide) _ _) <| oks_cons (clQ_ok (by decide) _ _) <| oks_cons (clQ_ok (by decide) _ _) <| oks_cons (clQ_ok (by decide) _ _) <| oks_cons (clQ_ok (by decide) _ _) <| oks_cons (clQ_ok (by decide) _ _) <| oks_cons (clQ_ok (by decide) _ _) <| oks_cons (clQ_ok (by decide) _ _) <| oks_cons (clQ_ok (by decide) _ _) <| oks_cons (clQ_ok (by decide) _ _) <| oks_cons (clQ_ok (by decide) _ _) <| oks_cons (clQ_ok (by decide) _ _) <| oks_cons (clQ_ok (by decide) _ _) <| oks_cons (clQ_ok (by decide) _ _) <| oks_cons (clQ_ok (by decide) _ _) <| oks_cons (clQ_ok (by decide) _ _) <| oks_cons (clQ_ok (by decide) _ _) <| oks_nil) rfl rfl
        have hT : ∀ t ∈ t_widens_4, t.Valid (mkC [1, 1, 1, 1, 1, 1, 1, 1, 1, 4, 4, 4, 4, 4, 4, 4, 4, 4, 4, 4, 4, 4, 4, 4, 4, 4, 4, 4, 4, 4, 4, 4, 4, 4, 4, 4, 4, 4, 4, 4, 4, 4, 4, 4, 4, 4, 4, 4, 4, 4, 4, 4, 4, 4, 4, 4, 4] [true, true, true, true, true, true, true, true, true, true, true, true, true, true, true, true, true, true, true, true, true, true, true, true, true, true, true, true, true, true, true, true, true, true, true, true, true, true, true, true, true, true, true, true, true, true, true, true, true, true, true, true, true, true, true, true, true] [26, 66, 64, 104] 230 (cl_widens_4 la lb lc ld le lf lg xa xb xc xd xe xf g m n) w) :=
          forall_cons (e_long (ls := [la, lb, lc, ld, le, lf, lg]) ⟨_, _, rfl, rfl, ⟨_, _, rfl, rfl, ⟨_, _, rfl, rfl, ⟨_, _, rfl, rfl, ⟨_, _, rfl, rfl, ⟨_, _, rfl, rfl, ⟨_, _, rfl, rfl, rfl⟩⟩⟩⟩⟩⟩⟩ rfl rfl h1) <|
          forall_cons (e_number' hG rfl hxa rfl (long_lens h1 la (by simp)) rfl rfl) <|
          forall_cons (e_number' hG rfl hxb rfl (long_lens h1 lb (by simp)) rfl rfl) <|
          forall_cons (e_between (pq rfl) (pq rfl) rfl rfl rfl rfl) <|
          forall_cons (e_number' hG rfl hxc rfl (long_lens h1 lc (by simp)) rfl rfl) <|
          forall_cons (e_number' hG rfl hxd rfl (long_lens h1 ld (by simp)) rfl rfl) <|
          forall_cons (e_between (pq rfl) (pq rfl) rfl rfl rfl rfl) <|
          forall_cons (e_number' hG rfl hxe rfl (long_lens h1 le (by simp)) rfl rfl) <|
          forall_cons (e_number' hG rfl hxf rfl (long_lens h1 lf (by simp)) rfl rfl) <|
          forall_cons (e_between (pq rfl) (pq rfl) rfl rfl rfl rfl) <|
          forall_cons (e_hull (ps rfl rfl) (ps rfl rfl) rfl rfl rfl rfl) <|
          forall_cons (e_inside (ps rfl rfl) (ps rfl rfl) rfl (and_has ha hb)) <|
          forall_cons (e_spplus hG (ps rfl rfl) (ps rfl rfl) rfl rfl rfl rfl) <|
          forall_cons (e_spplus hG (ps rfl rfl) (ps rfl rfl) rfl rfl rfl rfl) <|
          forall_cons (e_inside (ps rfl rfl) (ps rfl rfl) rfl (wide_plus ha hb (Btw.left _ _) (Btw.right _ _))) <|
          forall_cons (e_spminus hG (ps rfl rfl) (ps rfl rfl) rfl rfl rfl rfl) <|
          forall_cons (e_spminus hG (ps rfl rfl) (ps rfl rfl) rfl rfl rfl rfl) <|
          forall_cons (e_inside (ps rfl rfl) (ps rfl rfl) rfl (wide_minus ha hb (Btw.left _ _) (Btw.right _ _))) <|
          forall_cons (e_sptimes hG (ps rfl rfl) (ps rfl rfl) rfl rfl rfl rfl) <|
          forall_cons (e_sptimes hG (ps rfl rfl) (ps rfl rfl) rfl rfl rfl rfl) <|
          forall_cons (e_inside (ps rfl rfl) (ps rfl rfl) rfl (wide_times ha hb (Btw.left _ _) (Btw.right _ _))) <|
          forall_cons (e_sptimes hG (ps rfl rfl) (ps rfl rfl) rfl rfl rfl rfl) <|
          forall_cons (e_sptimes hG (ps rfl rfl) (ps rfl rfl) rfl rfl rfl rfl) <|
          forall_cons (e_inside (ps rfl rfl) (ps rfl rfl) rfl (wide_times (Btw.left _ _) (Btw.right _ _) ha hb)) <|
          forall_cons (e_square hG (ps rfl rfl) rfl rfl rfl rfl) <|
          forall_cons (e_square hG (ps rfl rfl) rfl rfl rfl rfl) <|
          forall_cons (e_inside (ps rfl rfl) (ps rfl rfl) rfl (wide_square ha hb)) <|
          forall_cons (e_spabs hG (ps rfl rfl) rfl rfl rfl rfl) <|
          forall_cons (e_spabs hG (ps rfl rfl) rfl rfl rfl rfl) <|
          forall_cons (e_inside (ps rfl rfl) (ps rfl rfl) rfl (wide_abs ha hb)) <|
          forall_cons (e_spover0 (ps rfl rfl) (ps rfl rfl) rfl rfl h2) <|
          forall_cons (e_number' hG rfl hg rfl (long_lens h1 lg (by simp)) rfl rfl) <|
          forall_cons (e_out hG (ps rfl rfl) (pq rfl) rfl rfl rfl rfl rfl h3) <|
          forall_cons (e_sign (pq rfl) h3) <|
          forall_cons (e_over hG (pq rfl) (pq rfl) rfl rfl (of_decide_eq_false (grid_ne h3))) <|
          forall_cons (e_over hG (pq rfl) (pq rfl) rfl rfl (of_decide_eq_false (grid_ne h3))) <|
          forall_cons (e_floor hG (pq rfl) rfl rfl rfl) <|
          forall_cons (e_equal (pq rfl) (pq rfl) rfl (grid_floor h3 _)) <|
          forall_cons (e_floor hG (pq rfl) rfl rfl rfl) <|
          forall_cons (e_equal (pq rfl) (pq rfl) rfl (grid_floor h3 _)) <|
          forall_cons (e_inside (ps rfl rfl) (ps rfl rfl) rfl (out_in h3 hle)) <|
          forall_cons (e_plus hG (pq rfl) (pq rfl) rfl rfl) <|
          forall_cons (e_cmp (pq rfl) (pq rfl) rfl (out_low h3 hle)) <|
          forall_cons (e_minus hG (pq rfl) (pq rfl) rfl rfl) <|
          forall_cons (e_cmp (pq rfl) (pq rfl) rfl (out_high h3 hle)) <|
          forall_cons (e_known hG) <|
          forall_nil
        refine Calls.mono (run_mk hC hT 12 Tryz.f12 [.agg [.cls 0 1, .cls 1 1, .cls 2 1, .cls 3 1, .cls 4 1, .cls 5 1, .cls 6 1, .cls 7 1, .cls 8 1]] (.val (vp (.bool true))) 200 Tryz.func12 rfl rfl rfl (by kernel_rfl) [.agg #[str la, str lb, str lc, str ld, str le, str lf, .int .u8 (m : Int), .int .u8 (n : Int), str lg]] ⟨_, _, rfl, ⟨_, ⟨[str la], _, rfl, ⟨fun _ => str la, rfl, rfl⟩, ⟨[str lb], _, rfl, ⟨fun _ => str lb, rfl, rfl⟩, ⟨[str lc], _, rfl, ⟨fun _ => str lc, rfl, rfl⟩, ⟨[str ld], _, rfl, ⟨fun _ => str ld, rfl, rfl⟩, ⟨[str le], _, rfl, ⟨fun _ => str le, rfl, rfl⟩, ⟨[str lf], _, rfl, ⟨fun _ => str lf, rfl, rfl⟩, ⟨[.int .u8 (m : Int)], _, rfl, ⟨fun _ => .int .u8 (m : Int), rfl, rfl⟩, ⟨[.int .u8 (n : Int)], _, rfl, ⟨fun _ => .int .u8 (n : Int), rfl, rfl⟩, ⟨[str lg], _, rfl, ⟨fun _ => str lg, rfl, rfl⟩, rfl⟩⟩⟩⟩⟩⟩⟩⟩⟩, rfl⟩, rfl⟩) ?_
        rintro e w' ⟨v, rfl, hv, hb⟩; obtain rfl := val_of hv; exact ⟨rfl, hb⟩
    | false =>
      rcases sign3 (g) with h3 | h3 | h3
      · skip
        have hC : (mkC [1, 1, 1, 1, 1, 1, 1, 1, 1, 4, 4, 4, 4, 4, 4, 4, 4, 4, 4, 4, 4, 4, 4, 4, 4, 4, 4, 4, 4, 4, 4, 4, 4, 4, 4, 4, 4, 4, 4, 4, 4, 4, 4, 4, 4, 4, 4, 4, 4, 4, 4, 4, 4] [true, true, true, true, true, true, true, true, true, true, true, true, true, true, true, true, true, true, true, true, true, true, true, true, true, true, true, true, true, true, true, true, true, true, true, true, true, true, true, true, true, true, true, true, true, true, true, true, true, true, true, true, true] [26, 66, 64, 104] 230 (cl_widens_5 la lb lc ld le lf lg xa xb xc xd xe xf g m n) w).Ok := mkC_ok (oks_cons (clV_ok rfl) <| oks_cons (clV_ok rfl) <| oks_cons (clV_ok rfl) <| oks_cons (clV_ok rfl) <| oks_cons (clV_ok rfl) <| oks_cons (clV_ok rfl) <| oks_cons (clV_ok rfl) <| oks_cons (clV_ok rfl) <| oks_cons (clV_ok rfl) <| oks_cons (clQ_ok (by decide) _ _) <| oks_cons (clQ_ok (by decide) _ _) <| oks_cons (clQ_ok (by decide) _ _) <| oks_cons (clQ_ok (by decide) _ _) <| oks_cons (clQ_ok (by decide) _ _) <| oks_cons (clQ_ok (by decide) _ _) <| oks_cons (clQ_ok (by decide) _ _) <| oks_cons (clQ_ok (by decide) _ _) <| oks_cons (clQ_ok (by decide) _ _) <| oks_cons (clQ_ok (by decide) _ _) <| oks_cons (clQ_ok (by decide) _ _) <| oks_cons (clQ_ok (by decide) _ _) <| oks_cons (clQ_ok (by decide) _ _) <| oks_cons (clQ_ok (by decide) _ _) <| oks_cons (clQ_ok (by decide) _ _) <| oks_cons (clQ_ok (by decide) _ _) <| oks_cons (clQ_ok (by decide) _ _) <| oks_cons (clQ_ok (by decide) _ _) <| oks_cons (clQ_ok (by decide) _ _) <| oks_cons (clQ_ok (by decide) _ _) <| oks_cons (clQ_ok (by decide) _ _) <| oks_cons (clQ_ok (by decide) _ _) <| oks_cons (clQ_ok (by decide) _ _) <| oks_cons (clQ_ok (by decide) _ _) <| oks_cons (clQ_ok (by decide) _ _) <| oks_cons (clQ_ok (by decide) _ _) <| oks_cons (clQ_ok (by decide) _ _) <| oks_cons (clQ_ok (by decide) _ _) <| oks_cons (clQ_ok (by decide) _ _) <| oks_cons (clQ_ok (by decide) _ _) <| oks_cons (clQ_ok (by decide) _ _) <| oks_cons (clQ_ok (by decide) _ _) <| oks_cons (clQ_ok (by decide) _ _) <| oks_cons (clQ_ok (by decide) _ _) <| oks_cons (clQ_ok (by decide) _ _) <| oks_cons (clQ_ok (by decide) _ _) <| oks_cons (clQ_ok (by decide) _ _) <| oks_cons (clQ_ok (by decide) _ _) <| oks_cons (clQ_ok (by decide) _ _) <| oks_cons (clQ_ok (by decide) _ _) <| oks_cons (clQ_ok (by decide) _ _) <| oks_cons (clQ_ok (by decide) _ _) <| oks_cons (clQ_ok (by decide) _ _) <| oks_cons (clQ_ok (by decide) _ _) <| oks_nil) rfl rfl
        have hT : ∀ t ∈ t_widens_5, t.Valid (mkC [1, 1, 1, 1, 1, 1, 1, 1, 1, 4, 4, 4, 4, 4, 4, 4, 4, 4, 4, 4, 4, 4, 4, 4, 4, 4, 4, 4, 4, 4, 4, 4, 4, 4, 4, 4, 4, 4, 4, 4, 4, 4, 4, 4, 4, 4, 4, 4, 4, 4, 4, 4, 4] [true, true, true, true, true, true, true, true, true, true, true, true, true, true, true, true, true, true, true, true, true, true, true, true, true, true, true, true, true, true, true, true, true, true, true, true, true, true, true, true, true, true, true, true, true, true, true, true, true, true, true, true, true] [26, 66, 64, 104] 230 (cl_widens_5 la lb lc ld le lf lg xa xb xc xd xe xf g m n) w) :=
          forall_cons (e_long (ls := [la, lb, lc, ld, le, lf, lg]) ⟨_, _, rfl, rfl, ⟨_, _, rfl, rfl, ⟨_, _, rfl, rfl, ⟨_, _, rfl, rfl, ⟨_, _, rfl, rfl, ⟨_, _, rfl, rfl, ⟨_, _, rfl, rfl, rfl⟩⟩⟩⟩⟩⟩⟩ rfl rfl h1) <|
          forall_cons (e_number' hG rfl hxa rfl (long_lens h1 la (by simp)) rfl rfl) <|
          forall_cons (e_number' hG rfl hxb rfl (long_lens h1 lb (by simp)) rfl rfl) <|
          forall_cons (e_between (pq rfl) (pq rfl) rfl rfl rfl rfl) <|
          forall_cons (e_number' hG rfl hxc rfl (long_lens h1 lc (by simp)) rfl rfl) <|
          forall_cons (e_number' hG rfl hxd rfl (long_lens h1 ld (by simp)) rfl rfl) <|
          forall_cons (e_between (pq rfl) (pq rfl) rfl rfl rfl rfl) <|
          forall_cons (e_number' hG rfl hxe rfl (long_lens h1 le (by simp)) rfl rfl) <|
          forall_cons (e_number' hG rfl hxf rfl (long_lens h1 lf (by simp)) rfl rfl) <|
          forall_cons (e_between (pq rfl) (pq rfl) rfl rfl rfl rfl) <|
          forall_cons (e_hull (ps rfl rfl) (ps rfl rfl) rfl rfl rfl rfl) <|
          forall_cons (e_inside (ps rfl rfl) (ps rfl rfl) rfl (and_has ha hb)) <|
          forall_cons (e_spplus hG (ps rfl rfl) (ps rfl rfl) rfl rfl rfl rfl) <|
          forall_cons (e_spplus hG (ps rfl rfl) (ps rfl rfl) rfl rfl rfl rfl) <|
          forall_cons (e_inside (ps rfl rfl) (ps rfl rfl) rfl (wide_plus ha hb (Btw.left _ _) (Btw.right _ _))) <|
          forall_cons (e_spminus hG (ps rfl rfl) (ps rfl rfl) rfl rfl rfl rfl) <|
          forall_cons (e_spminus hG (ps rfl rfl) (ps rfl rfl) rfl rfl rfl rfl) <|
          forall_cons (e_inside (ps rfl rfl) (ps rfl rfl) rfl (wide_minus ha hb (Btw.left _ _) (Btw.right _ _))) <|
          forall_cons (e_sptimes hG (ps rfl rfl) (ps rfl rfl) rfl rfl rfl rfl) <|
          forall_cons (e_sptimes hG (ps rfl rfl) (ps rfl rfl) rfl rfl rfl rfl) <|
          forall_cons (e_inside (ps rfl rfl) (ps rfl rfl) rfl (wide_times ha hb (Btw.left _ _) (Btw.right _ _))) <|
          forall_cons (e_sptimes hG (ps rfl rfl) (ps rfl rfl) rfl rfl rfl rfl) <|
          forall_cons (e_sptimes hG (ps rfl rfl) (ps rfl rfl) rfl rfl rfl rfl) <|
          forall_cons (e_inside (ps rfl rfl) (ps rfl rfl) rfl (wide_times (Btw.left _ _) (Btw.right _ _) ha hb)) <|
          forall_cons (e_square hG (ps rfl rfl) rfl rfl rfl rfl) <|
          forall_cons (e_square hG (ps rfl rfl) rfl rfl rfl rfl) <|
          forall_cons (e_inside (ps rfl rfl) (ps rfl rfl) rfl (wide_square ha hb)) <|
          forall_cons (e_spabs hG (ps rfl rfl) rfl rfl rfl rfl) <|
          forall_cons (e_spabs hG (ps rfl rfl) rfl rfl rfl rfl) <|
          forall_cons (e_inside (ps rfl rfl) (ps rfl rfl) rfl (wide_abs ha hb)) <|
          forall_cons (e_spover hG (ps rfl rfl) (ps rfl rfl) rfl rfl rfl rfl h2) <|
          forall_cons (e_spover hG (ps rfl rfl) (ps rfl rfl) rfl rfl rfl rfl (wide_zero ha hb h2)) <|
          forall_cons (e_inside (ps rfl rfl) (ps rfl rfl) rfl (wide_over (Btw.left _ _) (Btw.right _ _) ha hb h2)) <|
          forall_cons (e_number' hG rfl hg rfl (long_lens h1 lg (by simp)) rfl rfl) <|
          forall_cons (e_out0 hG (ps rfl rfl) (pq rfl) rfl rfl rfl (by rw [h3]; decide)) <|
          forall_cons (e_sign (pq rfl) h3) <|
          forall_cons (e_known hG) <|
          forall_nil
        refine Calls.mono (run_mk hC hT 12 Tryz.f12 [.agg [.cls 0 1, .cls 1 1, .cls 2 1, .cls 3 1, .cls 4 1, .cls 5 1, .cls 6 1, .cls 7 1, .cls 8 1]] (.val (vp (.bool true))) 200 Tryz.func12 rfl rfl rfl (by kernel_rfl) [.agg #[str la, str lb, str lc, str ld, str le, str lf, .int .u8 (m : Int), .int .u8 (n : Int), str lg]] ⟨_, _, rfl, ⟨_, ⟨[str la], _, rfl, ⟨fun _ => str la, rfl, rfl⟩, ⟨[str lb], _, rfl, ⟨fun _ => str lb, rfl, rfl⟩, ⟨[str lc], _, rfl, ⟨fun _ => str lc, rfl, rfl⟩, ⟨[str ld], _, rfl, ⟨fun _ => str ld, rfl, rfl⟩, ⟨[str le], _, rfl, ⟨fun _ => str le, rfl, rfl⟩, ⟨[str lf], _, rfl, ⟨fun _ => str lf, rfl, rfl⟩, ⟨[.int .u8 (m : Int)], _, rfl, ⟨fun _ => .int .u8 (m : Int), rfl, rfl⟩, ⟨[.int .u8 (n : Int)], _, rfl, ⟨fun _ => .int .u8 (n : Int), rfl, rfl⟩, ⟨[str lg], _, rfl, ⟨fun _ => str lg, rfl, rfl⟩, rfl⟩⟩⟩⟩⟩⟩⟩⟩⟩, rfl⟩, rfl⟩) ?_
        rintro e w' ⟨v, rfl, hv, hb⟩; obtain rfl := val_of hv; exact ⟨rfl, hb⟩
      · skip
        have hC : (mkC [1, 1, 1, 1, 1, 1, 1, 1, 1, 4, 4, 4, 4, 4, 4, 4, 4, 4, 4, 4, 4, 4, 4, 4, 4, 4, 4, 4, 4, 4, 4, 4, 4, 4, 4, 4, 4, 4, 4, 4, 4, 4, 4, 4, 4, 4, 4, 4, 4, 4, 4, 4, 4] [true, true, true, true, true, true, true, true, true, true, true, true, true, true, true, true, true, true, true, true, true, true, true, true, true, true, true, true, true, true, true, true, true, true, true, true, true, true, true, true, true, true, true, true, true, true, true, true, true, true, true, true, true] [26, 66, 64, 104] 230 (cl_widens_6 la lb lc ld le lf lg xa xb xc xd xe xf g m n) w).Ok := mkC_ok (oks_cons (clV_ok rfl) <| oks_cons (clV_ok rfl) <| oks_cons (clV_ok rfl) <| oks_cons (clV_ok rfl) <| oks_cons (clV_ok rfl) <| oks_cons (clV_ok rfl) <| oks_cons (clV_ok rfl) <| oks_cons (clV_ok rfl) <| oks_cons (clV_ok rfl) <| oks_cons (clQ_ok (by decide) _ _) <| oks_cons (clQ_ok (by decide) _ _) <| oks_cons (clQ_ok (by decide) _ _) <| oks_cons (clQ_ok (by decide) _ _) <| oks_cons (clQ_ok (by decide) _ _) <| oks_cons (clQ_ok (by decide) _ _) <| oks_cons (clQ_ok (by decide) _ _) <| oks_cons (clQ_ok (by decide) _ _) <| oks_cons (clQ_ok (by decide) _ _) <| oks_cons (clQ_ok (by decide) _ _) <| oks_cons (clQ_ok (by decide) _ _) <| oks_cons (clQ_ok (by decide) _ _) <| oks_cons (clQ_ok (by decide) _ _) <| oks_cons (clQ_ok (by decide) _ _) <| oks_cons (clQ_ok (by decide) _ _) <| oks_cons (clQ_ok (by decide) _ _) <| oks_cons (clQ_ok (by decide) _ _) <| oks_cons (clQ_ok (by decide) _ _) <| oks_cons (clQ_ok (by decide) _ _) <| oks_cons (clQ_ok (by decide) _ _) <| oks_cons (clQ_ok (by decide) _ _) <| oks_cons (clQ_ok (by decide) _ _) <| oks_cons (clQ_ok (by decide) _ _) <| oks_cons (clQ_ok (by decide) _ _) <| oks_cons (clQ_ok (by decide) _ _) <| oks_cons (clQ_ok (by decide) _ _) <| oks_cons (clQ_ok (by decide) _ _) <| oks_cons (clQ_ok (by decide) _ _) <| oks_cons (clQ_ok (by decide) _ _) <| oks_cons (clQ_ok (by decide) _ _) <| oks_cons (clQ_ok (by decide) _ _) <| oks_cons (clQ_ok (by decide) _ _) <| oks_cons (clQ_ok (by decide) _ _) <| oks_cons (clQ_ok (by decide) _ _) <| oks_cons (clQ_ok (by decide) _ _) <| oks_cons (clQ_ok (by decide) _ _) <| oks_cons (clQ_ok (by decide) _ _) <| oks_cons (clQ_ok (by decide) _ _) <| oks_cons (clQ_ok (by decide) _ _) <| oks_cons (clQ_ok (by decide) _ _) <| oks_cons (clQ_ok (by decide) _ _) <| oks_cons (clQ_ok (by decide) _ _) <| oks_cons (clQ_ok (by decide) _ _) <| oks_cons (clQ_ok (by decide) _ _) <| oks_nil) rfl rfl
        have hT : ∀ t ∈ t_widens_6, t.Valid (mkC [1, 1, 1, 1, 1, 1, 1, 1, 1, 4, 4, 4, 4, 4, 4, 4, 4, 4, 4, 4, 4, 4, 4, 4, 4, 4, 4, 4, 4, 4, 4, 4, 4, 4, 4, 4, 4, 4, 4, 4, 4, 4, 4, 4, 4, 4, 4, 4, 4, 4, 4, 4, 4] [true, true, true, true, true, true, true, true, true, true, true, true, true, true, true, true, true, true, true, true, true, true, true, true, true, true, true, true, true, true, true, true, true, true, true, true, true, true, true, true, true, true, true, true, true, true, true, true, true, true, true, true, true] [26, 66, 64, 104] 230 (cl_widens_6 la lb lc ld le lf lg xa xb xc xd xe xf g m n) w) :=
          forall_cons (e_long (ls := [la, lb, lc, ld, le, lf, lg]) ⟨_, _, rfl, rfl, ⟨_, _, rfl, rfl, ⟨_, _, rfl, rfl, ⟨_, _, rfl, rfl, ⟨_, _, rfl, rfl, ⟨_, _, rfl, rfl, ⟨_, _, rfl, rfl, rfl⟩⟩⟩⟩⟩⟩⟩ rfl rfl h1) <|
          forall_cons (e_number' hG rfl hxa rfl (long_lens h1 la (by simp)) rfl rfl) <|
          forall_cons (e_number' hG rfl hxb rfl (long_lens h1 lb (by simp)) rfl rfl) <|
          forall_cons (e_between (pq rfl) (pq rfl) rfl rfl rfl rfl) <|
          forall_cons (e_number' hG rfl hxc rfl (long_lens h1 lc (by simp)) rfl rfl) <|
          forall_cons (e_number' hG rfl hxd rfl (long_lens h1 ld (by simp)) rfl rfl) <|
          forall_cons (e_between (pq rfl) (pq rfl) rfl rfl rfl rfl) <|
          forall_cons (e_number' hG rfl hxe rfl (long_lens h1 le (by simp)) rfl rfl) <|
          forall_cons (e_number' hG rfl hxf rfl (long_lens h1 lf (by simp)) rfl rfl) <|
          forall_cons (e_between (pq rfl) (pq rfl) rfl rfl rfl rfl) <|
          forall_cons (e_hull (ps rfl rfl) (ps rfl rfl) rfl rfl rfl rfl) <|
          forall_cons (e_inside (ps rfl rfl) (ps rfl rfl) rfl (and_has ha hb)) <|
          forall_cons (e_spplus hG (ps rfl rfl) (ps rfl rfl) rfl rfl rfl rfl) <|
          forall_cons (e_spplus hG (ps rfl rfl) (ps rfl rfl) rfl rfl rfl rfl) <|
          forall_cons (e_inside (ps rfl rfl) (ps rfl rfl) rfl (wide_plus ha hb (Btw.left _ _) (Btw.right _ _))) <|
          forall_cons (e_spminus hG (ps rfl rfl) (ps rfl rfl) rfl rfl rfl rfl) <|
          forall_cons (e_spminus hG (ps rfl rfl) (ps rfl rfl) rfl rfl rfl rfl) <|
          forall_cons (e_inside (ps rfl rfl) (ps rfl rfl) rfl (wide_minus ha hb (Btw.left _ _) (Btw.right _ _))) <|
          forall_cons (e_sptimes hG (ps rfl rfl) (ps rfl rfl) rfl rfl rfl rfl) <|
          forall_cons (e_sptimes hG (ps rfl rfl) (ps rfl rfl) rfl rfl rfl rfl) <|
          forall_cons (e_inside (ps rfl rfl) (ps rfl rfl) rfl (wide_times ha hb (Btw.left _ _) (Btw.right _ _))) <|
          forall_cons (e_sptimes hG (ps rfl rfl) (ps rfl rfl) rfl rfl rfl rfl) <|
          forall_cons (e_sptimes hG (ps rfl rfl) (ps rfl rfl) rfl rfl rfl rfl) <|
          forall_cons (e_inside (ps rfl rfl) (ps rfl rfl) rfl (wide_times (Btw.left _ _) (Btw.right _ _) ha hb)) <|
          forall_cons (e_square hG (ps rfl rfl) rfl rfl rfl rfl) <|
          forall_cons (e_square hG (ps rfl rfl) rfl rfl rfl rfl) <|
          forall_cons (e_inside (ps rfl rfl) (ps rfl rfl) rfl (wide_square ha hb)) <|
          forall_cons (e_spabs hG (ps rfl rfl) rfl rfl rfl rfl) <|
          forall_cons (e_spabs hG (ps rfl rfl) rfl rfl rfl rfl) <|
          forall_cons (e_inside (ps rfl rfl) (ps rfl rfl) rfl (wide_abs ha hb)) <|
          forall_cons (e_spover hG (ps rfl rfl) (ps rfl rfl) rfl rfl rfl rfl h2) <|
          forall_cons (e_spover hG (ps rfl rfl) (ps rfl rfl) rfl rfl rfl rfl (wide_zero ha hb h2)) <|
          forall_cons (e_inside (ps rfl rfl) (ps rfl rfl) rfl (wide_over (Btw.left _ _) (Btw.right _ _) ha hb h2)) <|
          forall_cons (e_number' hG rfl hg rfl (long_lens h1 lg (by simp)) rfl rfl) <|
          forall_cons (e_out0 hG (ps rfl rfl) (pq rfl) rfl rfl rfl (by rw [h3]; decide)) <|
          forall_cons (e_sign (pq rfl) h3) <|
          forall_cons (e_known hG) <|
          forall_nil
        refine Calls.mono (run_mk hC hT 12 Tryz.f12 [.agg [.cls 0 1, .cls 1 1, .cls 2 1, .cls 3 1, .cls 4 1, .cls 5 1, .cls 6 1, .cls 7 1, .cls 8 1]] (.val (vp (.bool true))) 200 Tryz.func12 rfl rfl rfl (by kernel_rfl) [.agg #[str la, str lb, str lc, str ld, str le, str lf, .int .u8 (m : Int), .int .u8 (n : Int), str lg]] ⟨_, _, rfl, ⟨_, ⟨[str la], _, rfl, ⟨fun _ => str la, rfl, rfl⟩, ⟨[str lb], _, rfl, ⟨fun _ => str lb, rfl, rfl⟩, ⟨[str lc], _, rfl, ⟨fun _ => str lc, rfl, rfl⟩, ⟨[str ld], _, rfl, ⟨fun _ => str ld, rfl, rfl⟩, ⟨[str le], _, rfl, ⟨fun _ => str le, rfl, rfl⟩, ⟨[str lf], _, rfl, ⟨fun _ => str lf, rfl, rfl⟩, ⟨[.int .u8 (m : Int)], _, rfl, ⟨fun _ => .int .u8 (m : Int), rfl, rfl⟩, ⟨[.int .u8 (n : Int)], _, rfl, ⟨fun _ => .int .u8 (n : Int), rfl, rfl⟩, ⟨[str lg], _, rfl, ⟨fun _ => str lg, rfl, rfl⟩, rfl⟩⟩⟩⟩⟩⟩⟩⟩⟩, rfl⟩, rfl⟩) ?_
        rintro e w' ⟨v, rfl, hv, hb⟩; obtain rfl := val_of hv; exact ⟨rfl, hb⟩
      · skip
        have hC : (mkC [1, 1, 1, 1, 1, 1, 1, 1, 1, 4, 4, 4, 4, 4, 4, 4, 4, 4, 4, 4, 4, 4, 4, 4, 4, 4, 4, 4, 4, 4, 4, 4, 4, 4, 4, 4, 4, 4, 4, 4, 4, 4, 4, 4, 4, 4, 4, 4, 4, 4, 4, 4, 4, 4, 4, 4, 4, 4, 4, 4] [true, true, true, true, true, true, true, true, true, true, true, true, true, true, true, true, true, true, true, true, true, true, true, true, true, true, true, true, true, true, true, true, true, true, true, true, true, true, true, true, true, true, true, true, true, true, true, true, true, true, true, true, true, true, true, true, true, true, true, true] [26, 66, 64, 104] 230 (cl_widens_7 la lb lc ld le lf lg xa xb xc xd xe xf g m n) w).Ok := mkC_ok (oks_cons (clV_ok rfl) <| oks_cons (clV_ok rfl) <| oks_cons (clV_ok rfl) <| oks_cons (clV_ok rfl) <| oks_cons (clV_ok rfl) <| oks_cons (clV_ok rfl) <| oks_cons (clV_ok rfl) <| oks_cons (clV_ok rfl) <| oks_cons (clV_ok rfl) <| oks_cons (clQ_ok (by decide) _ _) <| oks_cons (clQ_ok (by decide) _ _) <| oks_cons (clQ_ok (by decide) _ _) <| oks_cons (clQ_ok (by decide) _ _) <| oks_cons (clQ_ok (by decide) _ _) <| oks_cons (clQ_ok (by decide) _ _) <| oks_cons (clQ_ok (by decide) _ _) <| oks_cons (clQ_ok (by decide) _ _) <| oks_cons (clQ_ok (by decide) _ _) <| oks_cons (clQ_ok (by decide) _ _) <| oks_cons (clQ_ok (by decide) _ _) <| oks_cons (clQ_ok (by decide) _ _) <| oks_cons (clQ_ok (by decide) _ _) <| oks_cons (clQ_ok (by decide) _ _) <| oks_cons (clQ_ok (by decide) _ _) <| oks_cons (clQ_ok (by decide) _ _) <| oks_cons (clQ_ok (by decide) _ _) <| oks_cons (clQ_ok (by decide) _ _) <| oks_cons (clQ_ok (by decide) _ _) <| oks_cons (clQ_ok (by decide) _ _) <| oks_cons (clQ_ok (by decide) _ _) <| oks_cons (clQ_ok (by decide) _ _) <| oks_cons (clQ_ok (by decide) _ _) <| oks_cons (clQ_ok (by decide) _ _) <| oks_cons (clQ_ok (by decide) _ _) <| oks_cons (clQ_ok (by decide) _ _) <| oks_cons (clQ_ok (by decide) _ _) <| oks_cons (clQ_ok (by decide) _ _) <| oks_cons (clQ_ok (by decide) _ _) <| oks_cons (clQ_ok (by decide) _ _) <| oks_cons (clQ_ok (by decide) _ _) <| oks_cons (clQ_ok (by decide) _ _) <| oks_cons (clQ_ok (by decide) _ _) <| oks_cons (clQ_ok (by decide) _ _) <| oks_cons (clQ_ok (by decide) _ _) <| oks_cons (clQ_ok (by decide) _ _) <| oks_cons (clQ_ok (by decide) _ _) <| oks_cons (clQ_ok (by decide) _ _) <| oks_cons (clQ_ok (by decide) _ _) <| oks_cons (clQ_ok (by decide) _ _) <| oks_cons (clQ_ok (by decide) _ _) <| oks_cons (clQ_ok (by decide) _ _) <| oks_cons (clQ_ok (by decide) _ _) <| oks_cons (clQ_ok (by decide) _ _) <| oks_cons (clQ_ok (by decide) _ _) <| oks_cons (clQ_ok (by decide) _ _) <| oks_cons (clQ_ok (by decide) _ _) <| oks_cons (clQ_ok (by decide) _ _) <| oks_cons (clQ_ok (by decide) _ _) <| oks_cons (clQ_ok (by decide) _ _) <| oks_cons (clQ_ok (by decide) _ _) <| oks_nil) rfl rfl
        have hT : ∀ t ∈ t_widens_7, t.Valid (mkC [1, 1, 1, 1, 1, 1, 1, 1, 1, 4, 4, 4, 4, 4, 4, 4, 4, 4, 4, 4, 4, 4, 4, 4, 4, 4, 4, 4, 4, 4, 4, 4, 4, 4, 4, 4, 4, 4, 4, 4, 4, 4, 4, 4, 4, 4, 4, 4, 4, 4, 4, 4, 4, 4, 4, 4, 4, 4, 4, 4] [true, true, true, true, true, true, true, true, true, true, true, true, true, true, true, true, true, true, true, true, true, true, true, true, true, true, true, true, true, true, true, true, true, true, true, true, true, true, true, true, true, true, true, true, true, true, true, true, true, true, true, true, true, true, true, true, true, true, true, true] [26, 66, 64, 104] 230 (cl_widens_7 la lb lc ld le lf lg xa xb xc xd xe xf g m n) w) :=
          forall_cons (e_long (ls := [la, lb, lc, ld, le, lf, lg]) ⟨_, _, rfl, rfl, ⟨_, _, rfl, rfl, ⟨_, _, rfl, rfl, ⟨_, _, rfl, rfl, ⟨_, _, rfl, rfl, ⟨_, _, rfl, rfl, ⟨_, _, rfl, rfl, rfl⟩⟩⟩⟩⟩⟩⟩ rfl rfl h1) <|
          forall_cons (e_number' hG rfl hxa rfl (long_lens h1 la (by simp)) rfl rfl) <|
          forall_cons (e_number' hG rfl hxb rfl (long_lens h1 lb (by simp)) rfl rfl) <|
          forall_cons (e_between (pq rfl) (pq rfl) rfl rfl rfl rfl) <|
          forall_cons (e_number' hG rfl hxc rfl (long_lens h1 lc (by simp)) rfl rfl) <|
          forall_cons (e_number' hG rfl hxd rfl (long_lens h1 ld (by simp)) rfl rfl) <|
          forall_cons (e_between (pq rfl) (pq rfl) rfl rfl rfl rfl) <|
          forall_cons (e_number' hG rfl hxe rfl (long_lens h1 le (by simp)) rfl rfl) <|
          forall_cons (e_number' hG rfl hxf rfl (long_lens h1 lf (by simp)) rfl rfl) <|
          forall_cons (e_between (pq rfl) (pq rfl) rfl rfl rfl rfl) <|
          forall_cons (e_hull (ps rfl rfl) (ps rfl rfl) rfl rfl rfl rfl) <|
          forall_cons (e_inside (ps rfl rfl) (ps rfl rfl) rfl (and_has ha hb)) <|
          forall_cons (e_spplus hG (ps rfl rfl) (ps rfl rfl) rfl rfl rfl rfl) <|
          forall_cons (e_spplus hG (ps rfl rfl) (ps rfl rfl) rfl rfl rfl rfl) <|
          forall_cons (e_inside (ps rfl rfl) (ps rfl rfl) rfl (wide_plus ha hb (Btw.left _ _) (Btw.right _ _))) <|
          forall_cons (e_spminus hG (ps rfl rfl) (ps rfl rfl) rfl rfl rfl rfl) <|
          forall_cons (e_spminus hG (ps rfl rfl) (ps rfl rfl) rfl rfl rfl rfl) <|
          forall_cons (e_inside (ps rfl rfl) (ps rfl rfl) rfl (wide_minus ha hb (Btw.left _ _) (Btw.right _ _))) <|
          forall_cons (e_sptimes hG (ps rfl rfl) (ps rfl rfl) rfl rfl rfl rfl) <|
          forall_cons (e_sptimes hG (ps rfl rfl) (ps rfl rfl) rfl rfl rfl rfl) <|
          forall_cons (e_inside (ps rfl rfl) (ps rfl rfl) rfl (wide_times ha hb (Btw.left _ _) (Btw.right _ _))) <|
          forall_cons (e_sptimes hG (ps rfl rfl) (ps rfl rfl) rfl rfl rfl rfl) <|
          forall_cons (e_sptimes hG (ps rfl rfl) (ps rfl rfl) rfl rfl rfl rfl) <|
          forall_cons (e_inside (ps rfl rfl) (ps rfl rfl) rfl (wide_times (Btw.left _ _) (Btw.right _ _) ha hb)) <|
          forall_cons (e_square hG (ps rfl rfl) rfl rfl rfl rfl) <|
          forall_cons (e_square hG (ps rfl rfl) rfl rfl rfl rfl) <|
          forall_cons (e_inside (ps rfl rfl) (ps rfl rfl) rfl (wide_square ha hb)) <|
          forall_cons (e_spabs hG (ps rfl rfl) rfl rfl rfl rfl) <|
          forall_cons (e_spabs hG (ps rfl rfl) rfl rfl rfl rfl) <|
          forall_cons (e_inside (ps rfl rfl) (ps rfl rfl) rfl (wide_abs ha hb)) <|
          forall_cons (e_spover hG (ps rfl rfl) (ps rfl rfl) rfl rfl rfl rfl h2) <|
          forall_cons (e_spover hG (ps rfl rfl) (ps rfl rfl) rfl rfl rfl rfl (wide_zero ha hb h2)) <|
          forall_cons (e_inside (ps rfl rfl) (ps rfl rfl) rfl (wide_over (Btw.left _ _) (Btw.right _ _) ha hb h2)) <|
          forall_cons (e_number' hG rfl hg rfl (long_lens h1 lg (by simp)) rfl rfl) <|
          forall_cons (e_out hG (ps rfl rfl) (pq rfl) rfl rfl rfl rfl rfl h3) <|
          forall_cons (e_sign (pq rfl) h3) <|
          forall_cons (e_over hG (pq rfl) (pq rfl) rfl rfl (of_decide_eq_false (grid_ne h3))) <|
          forall_cons (e_over hG (pq rfl) (pq rfl) rfl rfl (of_decide_eq_false (grid_ne h3))) <|
          forall_cons (e_floor hG (pq rfl) rfl rfl rfl) <|
          forall_cons (e_equal (pq rfl) (pq rfl) rfl (grid_floor h3 _)) <|
          forall_cons (e_floor hG (pq rfl) rfl rfl rfl) <|
          forall_cons (e_equal (pq rfl) (pq rfl) rfl (grid_floor h3 _)) <|
          forall_cons (e_inside (ps rfl rfl) (ps rfl rfl) rfl (out_in h3 hle)) <|
          forall_cons (e_plus hG (pq rfl) (pq rfl) rfl rfl) <|
          forall_cons (e_cmp (pq rfl) (pq rfl) rfl (out_low h3 hle)) <|
          forall_cons (e_minus hG (pq rfl) (pq rfl) rfl rfl) <|
          forall_cons (e_cmp (pq rfl) (pq rfl) rfl (out_high h3 hle)) <|
          forall_cons (e_known hG) <|
          forall_nil
        refine Calls.mono (run_mk hC hT 12 Tryz.f12 [.agg [.cls 0 1, .cls 1 1, .cls 2 1, .cls 3 1, .cls 4 1, .cls 5 1, .cls 6 1, .cls 7 1, .cls 8 1]] (.val (vp (.bool true))) 200 Tryz.func12 rfl rfl rfl (by kernel_rfl) [.agg #[str la, str lb, str lc, str ld, str le, str lf, .int .u8 (m : Int), .int .u8 (n : Int), str lg]] ⟨_, _, rfl, ⟨_, ⟨[str la], _, rfl, ⟨fun _ => str la, rfl, rfl⟩, ⟨[str lb], _, rfl, ⟨fun _ => str lb, rfl, rfl⟩, ⟨[str lc], _, rfl, ⟨fun _ => str lc, rfl, rfl⟩, ⟨[str ld], _, rfl, ⟨fun _ => str ld, rfl, rfl⟩, ⟨[str le], _, rfl, ⟨fun _ => str le, rfl, rfl⟩, ⟨[str lf], _, rfl, ⟨fun _ => str lf, rfl, rfl⟩, ⟨[.int .u8 (m : Int)], _, rfl, ⟨fun _ => .int .u8 (m : Int), rfl, rfl⟩, ⟨[.int .u8 (n : Int)], _, rfl, ⟨fun _ => .int .u8 (n : Int), rfl, rfl⟩, ⟨[str lg], _, rfl, ⟨fun _ => str lg, rfl, rfl⟩, rfl⟩⟩⟩⟩⟩⟩⟩⟩⟩, rfl⟩, rfl⟩) ?_
        rintro e w' ⟨v, rfl, hv, hb⟩; obtain rfl := val_of hv; exact ⟨rfl, hb⟩

end Sym
end Go.Proofs.YtnolcmoecodeaaaGreatDoor

/- ExactWidens: the statement, out of the walk. -/
namespace Go.Proofs.YtnolcmoecodeaaaGreatDoor
open Go Go.RowKit Go.Proofs Lim
open Go.ChangeShapes Go.WideShapes Go.ChangeAt Go.ChangeMaps

namespace lawExactWidens

set_option maxRecDepth 100000 in
theorem contract (H : Type) (enc : TypeId × Value → H) (W : World) (base : Nat) (args : Array Value) (ds gs : List (DataW H)) (before : List MemPlace)
    (hval : ∀ (j : Nat) t v, Tryz.f12.params[j]? = some t → args[j]? = some v → Value.okWide Tryz.prog W .any base t v)
    (hW : DataW.Whole enc Tryz.prog Tryz.f12.params.toList Rows.exactWidensSpec.vars false W args.toList ds gs before) (hG : Gr W) :
    Calls Tryz.prog 12 args W fun e W' => ∃ v, e = .returned v ∧ Rows.exactWidensSpec.post enc Tryz.prog Tryz.f12 false true false false W args v W' := by
  have hW' := hW
  obtain ⟨p, q, hA0, hV, rfl, hfz, hnd⟩ := hW
  have hA : DataW.TrodAll enc Tryz.prog W 0 (fun _ => true) true Tryz.f12.params.toList args.toList ds p := hA0
  rw [Tryz.params12] at hA hval
  obtain ⟨v0, vs0, d0, ds0, p0, q0, hargs0, rfl, rfl, h0, r0⟩ := trodAll_cons hA
  obtain ⟨rfl, rfl, rfl⟩ := trodAll_nil r0
  obtain rfl : args = #[v0] := by cases args; simp_all
  obtain ⟨rfl, rfl⟩ := trodVars_none hV
  clear hA0
  have hlt0 : ∀ x ∈ p0, x.block < W.heap.size := fun x hx => by simpa using hW'.lt x (by simp [hx])
  obtain ⟨s0, s1, s2, s3, s4, s5, s8, m, n, rfl, hm, hn⟩ := open_pair (hval 0 104 v0 rfl rfl) h0
  have walk := Sym.widens_walk s0.data.toList s1.data.toList s2.data.toList s3.data.toList s4.data.toList s5.data.toList s8.data.toList m n hm hn W hG
  refine walk.mono fun e W' ⟨he, hb⟩ => ?_
  subst he
  refine ⟨_, rfl, _, _, _, [], p0 ++ [], [], hW', ?_, ?_, ?_, hb.frame _, fun h => by cases h⟩
  · exact trodAll_cons_mk (shut_bool Tryz.underlying4 _) trodAll_mk0
  · exact trodAll_cons_mk (Below.trod laidOut (by kernel_rfl) (of_decide_eq_true (by kernel_rfl)) h0 hb hlt0) trodAll_mk0
  · trivial

theorem reads (os : Os) {H : Type} (enc : TypeId × Value → H) : ∃ places, DataW.whole enc Tryz.prog ((World.doorLaid Tryz.prog 400 os).forCall (fun _ _ => 0) ⟨#[], #[.agg #[.string ⟨#[]⟩, .string ⟨#[]⟩, .string ⟨#[]⟩, .string ⟨#[]⟩, .string ⟨#[]⟩, .string ⟨#[]⟩, .int .u8 0, .int .u8 0, .string ⟨#[]⟩]], []⟩).memory Tryz.f12.params.toList Rows.exactWidensSpec.vars false #[Value.agg #[.string ⟨#[]⟩, .string ⟨#[]⟩, .string ⟨#[]⟩, .string ⟨#[]⟩, .string ⟨#[]⟩, .string ⟨#[]⟩, .int .u8 0, .int .u8 0, .string ⟨#[]⟩]].toList 8 = some ([.agg [.agg [.lit (.string []), .lit (.string [])], .agg [.lit (.string []), .lit (.string [])], .agg [.lit (.string []), .lit (.string [])], .lit (.int .u8 0), .lit (.int .u8 0), .lit (.string [])]], [], places) :=
  ⟨[], by kernel_rfl⟩

set_option maxRecDepth 100000 in
theorem lifted (os : Os) (started : os.Started) (H : Type) (enc : TypeId × Value → H) (F : Stop.Interp) :
    ReturnsInHanded {} Tryz.checked os 12 .any ((OpenSpec.ofChange Rows.exactWidensSpec).preRow enc Tryz.prog Tryz.f12 Rows.exactWidensRow.domain false Rows.exactWidensRow.laid) (((OpenSpec.ofChange Rows.exactWidensSpec).at F).post enc Tryz.prog Tryz.f12 false true false false) := by
  obtain ⟨places, hx⟩ := reads os enc
  refine returnsInHanded_of_row (C := Tryz.checked) (s := OpenSpec.ofChange Rows.exactWidensSpec) own started (by kernel_rfl) Tryz.func12
    (witness_row_atRef (enc := enc) (C := Tryz.checked) false (World.doorLaid Tryz.prog 400 os) #[Value.agg #[.string ⟨#[]⟩, .string ⟨#[]⟩, .string ⟨#[]⟩, .string ⟨#[]⟩, .string ⟨#[]⟩, .string ⟨#[]⟩, .int .u8 0, .int .u8 0, .string ⟨#[]⟩]] rfl (by kernel_rfl) (by kernel_rfl) (by kernel_rfl)
      (OpenSpec.preRow_of_cond 8 hx (by kernel_rfl) (fun k hk => by cases hk) (by kernel_rfl) (door_met os _))) ?_
  intro W base args ds gs before hval hW _ _ _ hL hS _
  exact contract H enc W base args ds gs before hval hW (gr_of_laid hL hS)

theorem said : Rows.ExactWidensSaid :=
  OpenClaim.holds_of_cond 12 Tryz.f12 rfl rfl rfl rfl rfl rfl rfl ⟨rfl, rfl, rfl, rfl, rfl⟩ rfl rfl rfl rfl rfl (by kernel_rfl) Tryz.func12 (by kernel_rfl)
    (of_decide_eq_true (by kernel_rfl)) (by unfold Func.isWrapper; first | (rw [if_pos (by decide +kernel)]; kernel_rfl) | (rw [if_neg (by decide +kernel)]; exact ⟨rfl, rfl⟩))
    (fun os started H enc _ F => by rw [OpenClaim.pre_eq_preRow]; exact lifted os started H enc F)

theorem plain (f : FuncId) (fn : Func) (hf : Tryz.pinned.checked.prog.funcNamed "voussoir/voussoirlaw01.ExactWidens" = some f) (hfn : Tryz.pinned.checked.prog.funcs[f]? = some fn) :
    true = Tryz.pinned.checked.prog.looks [] ∧ ∀ (j : Nat) t, fn.params[j]? = some t → Tryz.pinned.checked.prog.wantsStandIn t = false := by
  obtain rfl : f = 12 := Option.some.inj ((show Tryz.prog.funcNamed "voussoir/voussoirlaw01.ExactWidens" = some 12 by kernel_rfl).symm.trans hf) |>.symm
  obtain rfl : fn = Tryz.f12 := (Option.some.inj (Tryz.func12.symm.trans hfn)).symm
  refine ⟨by kernel_rfl, fun j t ht => ?_⟩
  rw [Tryz.params12] at ht
  have hm : t ∈ [104] := by simpa using Array.mem_of_getElem? ht
  have hall : ([104].all fun u => !Tryz.prog.wantsStandIn u) = true := by kernel_rfl
  exact (show Tryz.prog.wantsStandIn t = false by simpa using List.all_eq_true.1 hall t hm)

/-- The statement. -/
theorem card : Rows.ExactWidensCardSaid :=
  Claim7.holds_tied_plain_at .later [] _ _ _ _ said (fun _ h => by cases h) (by kernel_rfl) (fun _ h => by cases h) exactWidens_row_tie rfl ⟨rfl, rfl⟩ (by kernel_rfl) rfl plain (by kernel_rfl)
#print axioms card

end lawExactWidens
end Go.Proofs.YtnolcmoecodeaaaGreatDoor
