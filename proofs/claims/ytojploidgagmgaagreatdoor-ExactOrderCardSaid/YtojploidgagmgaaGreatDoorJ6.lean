/- Package exact, part 6: what its functions answer, as laws on the numbers that their values stand for (LawEqual LawLong SpMath Ops). -/
import Derived.Test.YtojploidgagmgaaGreatDoorJ5
set_option linter.unusedVariables false
set_option linter.unusedSimpArgs false

/- equal: two numbers are equal and have one text. -/
namespace Go.Proofs.YtojploidgagmgaaGreatDoor
open Go Go.RowKit Go.Proofs Lim

theorem cmpQ_self (r : Rat) : cmpQ r r = 0 := by
  unfold cmpQ
  rw [if_neg Rat.lt_irrefl, if_neg Rat.lt_irrefl]
theorem cmpQ_eq {r s : Rat} (h : cmpQ r s = 0) : r = s := by
  unfold cmpQ at h
  split at h
  · exact absurd h (by decide)
  · rename_i h1
    split at h
    · exact absurd h (by decide)
    · rename_i h2
      exact Rat.le_antisymm (Rat.not_lt.1 h2) (Rat.not_lt.1 h1)

set_option maxHeartbeats 2000000 in
theorem equal_any (v1 v2 : Value) (r s : Rat) (k : Nat) (w : World) (h1 : IsQ w v1 r) (h2 : IsQ w v2 s) (z1 : Siz r k) (z2 : Siz s k) (hk : (k : Int) ≤ 1073741824) :
    Calls Tryz.prog 77 #[v1, v2] w (Val w (.bool (decide (r = s)))) := by
  have HC := Lib.hid (fun W (hW : Below w.heap.size w W) => cmp_q v1 v2 r s k W (h1.below hW (Nat.le_refl _)) (h2.below hW (Nat.le_refl _)) z1 z2 hk)
  obtain ⟨s1, x1, y1, p1, rfl⟩ := h1.form
  obtain ⟨s2, x2, y2, p2, rfl⟩ := h2.form
  by_cases hrs : r = s
  · have HT1 := Lib.hid (fun W (hW : Below w.heap.size w W) => text_q _ r k W (h1.below hW (Nat.le_refl _)) z1 hk)
    have HT2 := Lib.hid (fun W (hW : Below w.heap.size w W) => text_q _ s k W (h2.below hW (Nat.le_refl _)) z2 hk)
    subst hrs
    rw [cmpQ_self] at HC
    rw [show decide (r = r) = true from decide_eq_true rfl]
    clear h1 h2 z1 z2 hk
    generalize qtext r = tx at *
    go_enter Tryz.func77, Tryz.ntmps77
    go_wp2_with fail
    obtain ⟨W0, hW0, hb0, ⟨f0, f1, f2, f3⟩, ⟨g0, g1, g2, g3⟩⟩ := box2 w (.bool s1) (u x1) (u y1) (.pointer p1) (.bool s2) (u x2) (u y2) (.pointer p2); rw [← hW0]; clear hW0
    have HW0 := Lib.hid hb0
    clear hb0
    have hb0 := Below.refl W0.heap.size W0
    go_region_held3 (fun w' => (w'.cell? ⟨w.heap.size, 0, none⟩ = some (.bool s1) ∧ w'.cell? ⟨w.heap.size, 1, none⟩ = some (u x1) ∧ w'.cell? ⟨w.heap.size, 2, none⟩ = some (u y1) ∧ w'.cell? ⟨w.heap.size, 3, none⟩ = some (.pointer p1)) ∧ (w'.cell? ⟨w.heap.size + 1, 0, none⟩ = some (.bool s2) ∧ w'.cell? ⟨w.heap.size + 1, 1, none⟩ = some (u x2) ∧ w'.cell? ⟨w.heap.size + 1, 2, none⟩ = some (u y2) ∧ w'.cell? ⟨w.heap.size + 1, 3, none⟩ = some (.pointer p2))) (go_keep) (first | ((with_reducible refine (HC.out _ HW0.out.drew).mono ?_); rintro e W1 ⟨rfl, hb⟩; (obtain ⟨_, _, _, _⟩ := boxq (b := w.heap.size) hb (by assumption) (by assumption) (by assumption) (by assumption); obtain ⟨_, _, _, _⟩ := boxq (b := w.heap.size + 1) hb (by assumption) (by assumption) (by assumption) (by assumption)); have hb1 := chain hb0 hb; clear hb) | ((with_reducible refine (HT1.out _ (chain1 HW0.out hb1)).mono ?_); rintro e W2 ⟨rfl, hb⟩; (obtain ⟨_, _, _, _⟩ := boxq (b := w.heap.size) hb (by assumption) (by assumption) (by assumption) (by assumption); obtain ⟨_, _, _, _⟩ := boxq (b := w.heap.size + 1) hb (by assumption) (by assumption) (by assumption) (by assumption)); have hb1 := chain1 hb1 hb; clear hb) | ((with_reducible refine (HT2.out _ (chain1 HW0.out hb1)).mono ?_); rintro e W3 ⟨rfl, hb⟩; (obtain ⟨_, _, _, _⟩ := boxq (b := w.heap.size) hb (by assumption) (by assumption) (by assumption) (by assumption); obtain ⟨_, _, _, _⟩ := boxq (b := w.heap.size + 1) hb (by assumption) (by assumption) (by assumption) (by assumption)); have hb1 := chain1 hb1 hb; clear hb))
    go_wp2_with fail
    exact bodyPost_ret (v := .bool true) (by simp [results, Tryz.results77, go_sem]) rfl ⟨rfl, chain1 HW0.out hb1⟩
  · have hc : cmpQ r s = -1 ∨ cmpQ r s = 1 := by
      have h0 : ¬ cmpQ r s = 0 := fun h => hrs (cmpQ_eq h)
      unfold cmpQ at h0 ⊢
      split
      · exact Or.inl rfl
      · rename_i h1
        rw [if_neg h1] at h0
        split
        · exact Or.inr rfl
        · rename_i h2
          rw [if_neg h2] at h0
          exact absurd rfl h0
    rw [show decide (r = s) = false from decide_eq_false hrs]
    clear h1 h2 z1 z2 hk hrs
    rcases hc with hc | hc
    · rw [hc] at HC
      clear hc
      go_enter Tryz.func77, Tryz.ntmps77
      go_wp2_with fail
      obtain ⟨W0, hW0, hb0, ⟨f0, f1, f2, f3⟩, ⟨g0, g1, g2, g3⟩⟩ := box2 w (.bool s1) (u x1) (u y1) (.pointer p1) (.bool s2) (u x2) (u y2) (.pointer p2); rw [← hW0]; clear hW0
      have HW0 := Lib.hid hb0
      clear hb0
      have hb0 := Below.refl W0.heap.size W0
      go_region_with (refine (HC.out _ HW0.out.drew).mono ?_; rintro e W1 ⟨rfl, hb⟩; (obtain ⟨_, _, _, _⟩ := boxq (b := w.heap.size) hb (by assumption) (by assumption) (by assumption) (by assumption); obtain ⟨_, _, _, _⟩ := boxq (b := w.heap.size + 1) hb (by assumption) (by assumption) (by assumption) (by assumption)); have hb1 := chain hb0 hb; clear hb)
      all_goals go_wp2_with fail
      all_goals exact bodyPost_ret (v := .bool false) (by simp [results, Tryz.results77, go_sem]) rfl ⟨rfl, chain1 HW0.out hb1⟩
    · rw [hc] at HC
      clear hc
      go_enter Tryz.func77, Tryz.ntmps77
      go_wp2_with fail
      obtain ⟨W0, hW0, hb0, ⟨f0, f1, f2, f3⟩, ⟨g0, g1, g2, g3⟩⟩ := box2 w (.bool s1) (u x1) (u y1) (.pointer p1) (.bool s2) (u x2) (u y2) (.pointer p2); rw [← hW0]; clear hW0
      have HW0 := Lib.hid hb0
      clear hb0
      have hb0 := Below.refl W0.heap.size W0
      go_region_with (refine (HC.out _ HW0.out.drew).mono ?_; rintro e W1 ⟨rfl, hb⟩; (obtain ⟨_, _, _, _⟩ := boxq (b := w.heap.size) hb (by assumption) (by assumption) (by assumption) (by assumption); obtain ⟨_, _, _, _⟩ := boxq (b := w.heap.size + 1) hb (by assumption) (by assumption) (by assumption) (by assumption)); have hb1 := chain hb0 hb; clear hb)
      all_goals go_wp2_with fail
      all_goals exact bodyPost_ret (v := .bool false) (by simp [results, Tryz.results77, go_sem]) rfl ⟨rfl, chain1 HW0.out hb1⟩

end Go.Proofs.YtojploidgagmgaaGreatDoor

/- long: one of some texts is longer than 120 bytes. -/
namespace Go.Proofs.YtojploidgagmgaaGreatDoor
open Go Go.RowKit Go.Proofs Lim

theorem any_take_succ {ls : List (List UInt8)} {k : Nat} (p : List UInt8 → Bool) (h : (ls.take k).any p = false) (hk : p (ls[k]?.getD []) = false) : (ls.take (k + 1)).any p = false := by
  rw [List.take_add_one, List.any_append, h, Bool.false_or]
  cases hx : ls[k]? with
  | none => rfl
  | some x => rw [hx] at hk; simpa using hk

theorem any_at {ls : List (List UInt8)} {k : Nat} (p : List UInt8 → Bool) (hk : k < ls.length) (h : p (ls[k]?.getD []) = true) : ls.any p = true := by
  rw [List.getElem?_eq_getElem hk] at h
  exact List.any_eq_true.2 ⟨ls[k], List.getElem_mem hk, h⟩

theorem long_any (b : Nat) (ls : List (List UInt8)) (w : World) (hc : ∀ i, i < ls.length → w.cell? ⟨b, i, none⟩ = some (str (ls[i]?.getD []))) (hn : (ls.length : Int) ≤ 1000) :
    Calls Tryz.prog 27 #[.slice (some ⟨b, 0, none⟩) ls.length ls.length] w (fun e w' => e = .returned (.bool (ls.any (fun x => decide (120 < x.length)))) ∧ w' = w) := by
  have HC := Lib.hid hc
  clear hc
  generalize hR : ls.any (fun x => decide (120 < x.length)) = R
  have HR := Lib.hid hR
  clear hR
  go_enter Tryz.func27, Tryz.ntmps27
  go_wp2_with fail
  go_loop [3] (fun i => ∃ k, k ≤ ls.length ∧ i = .int .i64 (k : Int) ∧ Hid ((ls.take k).any (fun x => decide (120 < x.length)) = false)) (fun i => ls.length - (intOf i).toNat)
  case atStart => exact ⟨0, Nat.zero_le _, rfl, Lib.hid rfl⟩
  case round =>
    obtain ⟨k, hk, rfl, hany⟩ := hrel
    by_cases hkn : k < ls.length
    · have hcell := HC.out k hkn
      have hk0 : (0 : Int) ≤ (k : Int) := by omega
      have hk1 : (k : Int) < (ls.length : Int) := by omega
      have hsz : (⟨(ls[k]?.getD []).toArray⟩ : ByteArray).size = (ls[k]?.getD []).length := by simp [ByteArray.size]
      have hst := any_take_succ (ls := ls) (k := k) (fun x => decide (120 < x.length)) hany.out
      have HSt := Lib.hid hst
      have hat := any_at (ls := ls) (k := k) (fun x => decide (120 < x.length)) hkn
      have HAt := Lib.hid hat
      clear hst hat
      generalize ls[k]?.getD [] = x at *
      by_cases hx : 120 < x.length
      · have hxi : (120 : Int) < (x.length : Int) := by omega
        have hr : R = true := by rw [← HR.out]; exact HAt.out (by simpa using hx)
        clear HAt HSt HR
        subst hr
        go_wp2_with fail
        go_ret
        exact ⟨rfl, rfl⟩
      · have hxi : ¬ (120 : Int) < (x.length : Int) := by omega
        have hw : IntKind.i64.wrap ((k : Int) + 1) = (k : Int) + 1 := by rw [IntKind.wrap_i64]; omega
        have HN := Lib.hid (HSt.out (by simpa using hx))
        clear HSt HAt
        go_wp2_with fail
        go_round
        case rel => exact ⟨k + 1, by omega, by simp, HN⟩
        case measure => simp [intOf]; omega
    · obtain rfl : k = ls.length := by omega
      have hr : R = false := by
        have := hany.out
        rw [List.take_length] at this
        rw [← HR.out, this]
      clear hany HR
      subst hr
      go_wp2_with fail
      go_ret
      exact ⟨rfl, rfl⟩

end Go.Proofs.YtojploidgagmgaaGreatDoor

/- The mathematics of spans: what lies between ends, and where ends come from. -/
namespace Go.Proofs.YtojploidgagmgaaGreatDoor
open Go Go.RowKit Go.Proofs Lim

theorem lowOf_le_head (r : Rat) (rs : List Rat) : lowOf r rs ≤ r := by
  induction rs generalizing r with
  | nil => exact Rat.le_refl
  | cons x rs ih =>
    show lowOf (if x < r then x else r) rs ≤ r
    refine Rat.le_trans (ih _) ?_
    split
    · rename_i h; exact Rat.le_of_lt h
    · exact Rat.le_refl
theorem lowOf_le_mem {r : Rat} {rs : List Rat} {x : Rat} (h : x ∈ rs) : lowOf r rs ≤ x := by
  induction rs generalizing r with
  | nil => cases h
  | cons y rs ih =>
    show lowOf (if y < r then y else r) rs ≤ x
    rcases List.mem_cons.1 h with rfl | h
    · refine Rat.le_trans (lowOf_le_head _ _) ?_
      split
      · exact Rat.le_refl
      · rename_i h; exact Rat.not_lt.1 h
    · exact ih h
theorem le_highOf_head (r : Rat) (rs : List Rat) : r ≤ highOf r rs := by
  induction rs generalizing r with
  | nil => exact Rat.le_refl
  | cons x rs ih =>
    show r ≤ highOf (if r < x then x else r) rs
    refine Rat.le_trans ?_ (ih _)
    split
    · rename_i h; exact Rat.le_of_lt h
    · exact Rat.le_refl
theorem le_highOf_mem {r : Rat} {rs : List Rat} {x : Rat} (h : x ∈ rs) : x ≤ highOf r rs := by
  induction rs generalizing r with
  | nil => cases h
  | cons y rs ih =>
    show x ≤ highOf (if r < y then y else r) rs
    rcases List.mem_cons.1 h with rfl | h
    · refine Rat.le_trans ?_ (le_highOf_head _ _)
      split
      · exact Rat.le_refl
      · rename_i h; exact Rat.not_lt.1 h
    · exact ih h

/-- x lies between a and b, in whatever order these stand. -/
def Btw (a b x : Rat) : Prop := (a ≤ x ∧ x ≤ b) ∨ (b ≤ x ∧ x ≤ a)

theorem Btw.left (a b : Rat) : Btw a b a := by
  rcases (Rat.le_total : a ≤ b ∨ b ≤ a) with h | h
  · exact .inl ⟨Rat.le_refl, h⟩
  · exact .inr ⟨h, Rat.le_refl⟩
theorem Btw.right (a b : Rat) : Btw a b b := by
  rcases (Rat.le_total : a ≤ b ∨ b ≤ a) with h | h
  · exact .inl ⟨h, Rat.le_refl⟩
  · exact .inr ⟨Rat.le_refl, h⟩
theorem Btw.symm {a b x : Rat} (h : Btw a b x) : Btw b a x := Or.symm h

theorem hasQ_iff (a b x : Rat) : hasQ a b x = true ↔ Btw a b x := by
  unfold hasQ Btw
  rw [Bool.and_eq_true, decide_eq_true_eq, decide_eq_true_eq]
  show (if b < a then b else a) ≤ x ∧ x ≤ (if a < b then b else a) ↔ _
  constructor
  · rintro ⟨h1, h2⟩
    split at h1
    · rename_i h
      rw [if_neg (Rat.not_lt.2 (Rat.le_of_lt h))] at h2
      exact .inr ⟨h1, h2⟩
    · rename_i h
      split at h2
      · exact .inl ⟨h1, h2⟩
      · rename_i h'
        have : a = b := Rat.le_antisymm (Rat.not_lt.1 h) (Rat.not_lt.1 h')
        subst this
        exact .inl ⟨h1, h2⟩
  · rintro (⟨h1, h2⟩ | ⟨h1, h2⟩)
    · constructor
      · split
        · rename_i h; exact Rat.le_trans (Rat.le_of_lt h) h1
        · exact h1
      · split
        · exact h2
        · rename_i h; exact Rat.le_trans h2 (Rat.not_lt.1 h)
    · constructor
      · split
        · exact h1
        · rename_i h; exact Rat.le_trans (Rat.not_lt.1 h) h1
      · split
        · rename_i h; exact Rat.le_trans h2 (Rat.le_of_lt h)
        · exact h2

theorem hasQ_false {a b x : Rat} (h : hasQ a b x = false) : ¬ Btw a b x := fun k => by
  rw [(hasQ_iff a b x).2 k] at h; exact absurd h (by decide)

theorem low_le_high (r : Rat) (rs : List Rat) : lowOf r rs ≤ highOf r rs := Rat.le_trans (lowOf_le_head r rs) (le_highOf_head r rs)

/-- What lies from the least to the greatest of some numbers. -/
theorem Btw.ends {r : Rat} {rs : List Rat} {x : Rat} (h1 : lowOf r rs ≤ x) (h2 : x ≤ highOf r rs) : Btw (lowOf r rs) (highOf r rs) x := .inl ⟨h1, h2⟩

theorem Btw.le {a b x : Rat} (h : Btw a b x) (hab : a ≤ b) : a ≤ x ∧ x ≤ b := by
  rcases h with h | ⟨h1, h2⟩
  · exact h
  · have h3 := Rat.le_antisymm hab (Rat.le_trans h1 h2)
    subst h3
    exact ⟨h1, h2⟩

theorem btw_trans {a b c d x : Rat} (h : Btw c d x) (hc : Btw a b c) (hd : Btw a b d) : Btw a b x := by
  rcases h with ⟨h1, h2⟩ | ⟨h1, h2⟩ <;> rcases hc with ⟨c1, c2⟩ | ⟨c1, c2⟩ <;> rcases hd with ⟨d1, d2⟩ | ⟨d1, d2⟩
  all_goals first
    | exact .inl ⟨Rat.le_trans c1 h1, Rat.le_trans h2 d2⟩
    | exact .inr ⟨Rat.le_trans c1 h1, Rat.le_trans h2 d2⟩
    | exact .inl ⟨Rat.le_trans d1 h1, Rat.le_trans h2 c2⟩
    | exact .inr ⟨Rat.le_trans d1 h1, Rat.le_trans h2 c2⟩
    | exact .inl ⟨Rat.le_trans c1 h1, Rat.le_trans h2 (Rat.le_trans d2 (Rat.le_trans c1 c2))⟩
    | exact .inl ⟨Rat.le_trans c1 h1, Rat.le_trans (Rat.le_trans h2 d2) (Rat.le_trans c1 c2)⟩
    | exact .inr ⟨Rat.le_trans c1 h1, Rat.le_trans (Rat.le_trans h2 d2) (Rat.le_trans c1 c2)⟩
    | exact .inl ⟨Rat.le_trans d1 h1, Rat.le_trans (Rat.le_trans h2 c2) (Rat.le_trans d1 d2)⟩
    | exact .inr ⟨Rat.le_trans d1 h1, Rat.le_trans (Rat.le_trans h2 c2) (Rat.le_trans d1 d2)⟩

/-- A function of two numbers that grows or falls in each of them between ends. -/
def Mono (f : Rat → Rat) (a b : Rat) : Prop := ∀ x, Btw a b x → Btw (f a) (f b) (f x)

theorem corners {f : Rat → Rat → Rat} {a b c d x y : Rat} (hx : Btw a b x) (hy : Btw c d y) (h1 : ∀ y, Btw c d y → Mono (fun x => f x y) a b) (h2 : ∀ x, Btw a b x → Mono (f x) c d) :
    Btw (wLow f a b c d) (wHigh f a b c d) (f x y) := by
  have m1 : Btw (wLow f a b c d) (wHigh f a b c d) (f a c) := .inl ⟨lowOf_le_head _ _, le_highOf_head _ _⟩
  have m2 : Btw (wLow f a b c d) (wHigh f a b c d) (f a d) := .inl ⟨lowOf_le_mem (by simp), le_highOf_mem (by simp)⟩
  have m3 : Btw (wLow f a b c d) (wHigh f a b c d) (f b c) := .inl ⟨lowOf_le_mem (by simp), le_highOf_mem (by simp)⟩
  have m4 : Btw (wLow f a b c d) (wHigh f a b c d) (f b d) := .inl ⟨lowOf_le_mem (by simp), le_highOf_mem (by simp)⟩
  exact btw_trans (h1 y hy x hx) (btw_trans (h2 a (Btw.left a b) y hy) m1 m2) (btw_trans (h2 b (Btw.right a b) y hy) m3 m4)

theorem mono_add_left (y a b : Rat) : Mono (fun x => x + y) a b := by
  rintro x (⟨h1, h2⟩ | ⟨h1, h2⟩)
  · exact .inl ⟨Rat.add_le_add_right.2 h1, Rat.add_le_add_right.2 h2⟩
  · exact .inr ⟨Rat.add_le_add_right.2 h1, Rat.add_le_add_right.2 h2⟩
theorem mono_add_right (x a b : Rat) : Mono (fun y => x + y) a b := by
  rintro y (⟨h1, h2⟩ | ⟨h1, h2⟩)
  · exact .inl ⟨Rat.add_le_add_left.2 h1, Rat.add_le_add_left.2 h2⟩
  · exact .inr ⟨Rat.add_le_add_left.2 h1, Rat.add_le_add_left.2 h2⟩
theorem mono_mul_left (y a b : Rat) : Mono (fun x => x * y) a b := by
  rcases (Rat.le_total : 0 ≤ y ∨ y ≤ 0) with hy | hy
  · rintro x (⟨h1, h2⟩ | ⟨h1, h2⟩)
    · exact .inl ⟨Rat.mul_le_mul_of_nonneg_right h1 hy, Rat.mul_le_mul_of_nonneg_right h2 hy⟩
    · exact .inr ⟨Rat.mul_le_mul_of_nonneg_right h1 hy, Rat.mul_le_mul_of_nonneg_right h2 hy⟩
  · have hy' : 0 ≤ -y := by have := Rat.neg_le_neg hy; simpa using this
    have key : ∀ {u v : Rat}, u ≤ v → v * y ≤ u * y := fun {u v} h => by
      have := Rat.mul_le_mul_of_nonneg_right h hy'
      rw [Rat.mul_neg, Rat.mul_neg] at this
      exact Rat.neg_le_neg_iff.1 this
    rintro x (⟨h1, h2⟩ | ⟨h1, h2⟩)
    · exact .inr ⟨key h2, key h1⟩
    · exact .inl ⟨key h2, key h1⟩
theorem mono_mul_right (x a b : Rat) : Mono (fun y => x * y) a b := by
  intro y hy
  have := mono_mul_left x a b y hy
  simpa only [Rat.mul_comm x] using this
theorem mono_neg (a b : Rat) : Mono (fun y => -y) a b := by
  rintro y (⟨h1, h2⟩ | ⟨h1, h2⟩)
  · exact .inr ⟨Rat.neg_le_neg h2, Rat.neg_le_neg h1⟩
  · exact .inl ⟨Rat.neg_le_neg h2, Rat.neg_le_neg h1⟩
theorem mono_sub_left (y a b : Rat) : Mono (fun x => x - y) a b := by
  intro x hx
  have := mono_add_left (-y) a b x hx
  simpa only [Rat.sub_eq_add_neg] using this
theorem mono_sub_right (x a b : Rat) : Mono (fun y => x - y) a b := by
  intro y hy
  have := mono_add_right x (-a) (-b) (-y) (mono_neg a b y hy)
  simpa only [Rat.sub_eq_add_neg] using this


theorem inv_anti {u v : Rat} (h : 0 < u) (k : u ≤ v) : v⁻¹ ≤ u⁻¹ := by
  have hv : 0 < v := by grind
  have h1 := Rat.inv_pos.2 h
  have h2 := Rat.inv_pos.2 hv
  have h3 : u⁻¹ - v⁻¹ = (v - u) * (u⁻¹ * v⁻¹) := by grind
  have h4 := Rat.mul_nonneg (a := v - u) (b := u⁻¹ * v⁻¹) (by grind) (Rat.mul_nonneg (by grind) (by grind))
  grind
theorem inv_anti_neg {u v : Rat} (h : v < 0) (k : u ≤ v) : v⁻¹ ≤ u⁻¹ := by
  have h1 := inv_anti (u := -v) (v := -u) (by grind) (by grind)
  have h2 : (-v)⁻¹ = -v⁻¹ := by grind
  have h3 : (-u)⁻¹ = -u⁻¹ := by grind
  grind
theorem mono_inv {c d : Rat} (h0 : ¬ Btw c d 0) : Mono (fun y => y⁻¹) c d := by
  have hs : (0 < c ∧ 0 < d) ∨ (c < 0 ∧ d < 0) := by unfold Btw at h0; grind
  intro y hy
  show Btw c⁻¹ d⁻¹ y⁻¹
  unfold Btw at hy ⊢
  rcases hs with ⟨hc, hd⟩ | ⟨hc, hd⟩ <;> rcases hy with ⟨h1, h2⟩ | ⟨h1, h2⟩
  · exact .inr ⟨inv_anti (by grind) h2, inv_anti hc h1⟩
  · exact .inl ⟨inv_anti (by grind) h2, inv_anti hd h1⟩
  · exact .inr ⟨inv_anti_neg hd h2, inv_anti_neg (by grind) h1⟩
  · exact .inl ⟨inv_anti_neg hc h2, inv_anti_neg (by grind) h1⟩

/-- The five operations at numbers of spans. -/
theorem plus_in {a b c d x y : Rat} (hx : Btw a b x) (hy : Btw c d y) : Btw (wLow (fun r s => r + s) a b c d) (wHigh (fun r s => r + s) a b c d) (x + y) :=
  corners (f := fun r s => r + s) hx hy (fun y _ => mono_add_left y a b) (fun x _ => mono_add_right x c d)
theorem minus_in {a b c d x y : Rat} (hx : Btw a b x) (hy : Btw c d y) : Btw (wLow (fun r s => r - s) a b c d) (wHigh (fun r s => r - s) a b c d) (x - y) :=
  corners (f := fun r s => r - s) hx hy (fun y _ => mono_sub_left y a b) (fun x _ => mono_sub_right x c d)
theorem times_in {a b c d x y : Rat} (hx : Btw a b x) (hy : Btw c d y) : Btw (wLow (fun r s => r * s) a b c d) (wHigh (fun r s => r * s) a b c d) (x * y) :=
  corners (f := fun r s => r * s) hx hy (fun y _ => mono_mul_left y a b) (fun x _ => mono_mul_right x c d)
theorem over_in {a b c d x y : Rat} (hx : Btw a b x) (hy : Btw c d y) (h0 : ¬ Btw c d 0) : Btw (wLow (fun r s => r * s⁻¹) a b c d) (wHigh (fun r s => r * s⁻¹) a b c d) (x * y⁻¹) := by
  refine corners (f := fun r s => r * s⁻¹) hx hy (fun y _ => mono_mul_left y⁻¹ a b) (fun x _ y hy => ?_)
  exact mono_mul_right x c⁻¹ d⁻¹ y⁻¹ (mono_inv h0 y hy)

/-- An end of the results is the result of ends. -/
theorem wLow_mem (f : Rat → Rat → Rat) (a b c d : Rat) : wLow f a b c d = f a c ∨ wLow f a b c d = f a d ∨ wLow f a b c d = f b c ∨ wLow f a b c d = f b d := by
  have := lowOf_mem (f a c) [f a d, f b c, f b d]
  unfold wLow
  simpa using this
theorem wHigh_mem (f : Rat → Rat → Rat) (a b c d : Rat) : wHigh f a b c d = f a c ∨ wHigh f a b c d = f a d ∨ wHigh f a b c d = f b c ∨ wHigh f a b c d = f b d := by
  have := highOf_mem (f a c) [f a d, f b c, f b d]
  unfold wHigh
  simpa using this

theorem square_in {a b x : Rat} (hx : Btw a b x) : Btw (lowOf (a * a) (turnVals (hasQ a b 0) (b * b) (0 * 0))) (highOf (a * a) (turnVals (hasQ a b 0) (b * b) (0 * 0))) (x * x) := by
  have m1 := lowOf_le_head (a * a) (turnVals (hasQ a b 0) (b * b) (0 * 0))
  have m2 : lowOf (a * a) (turnVals (hasQ a b 0) (b * b) (0 * 0)) ≤ b * b := lowOf_le_mem (by unfold turnVals; split <;> simp)
  have m3 := le_highOf_head (a * a) (turnVals (hasQ a b 0) (b * b) (0 * 0))
  have m4 : b * b ≤ highOf (a * a) (turnVals (hasQ a b 0) (b * b) (0 * 0)) := le_highOf_mem (by unfold turnVals; split <;> simp)
  have m5 : Btw a b 0 → lowOf (a * a) (turnVals (hasQ a b 0) (b * b) (0 * 0)) ≤ 0 := fun h => by
    have := (hasQ_iff a b 0).2 h
    exact lowOf_le_mem (by rw [this]; simp [turnVals])
  generalize lowOf (a * a) (turnVals (hasQ a b 0) (b * b) (0 * 0)) = l at *
  generalize highOf (a * a) (turnVals (hasQ a b 0) (b * b) (0 * 0)) = g at *
  have sq : ∀ {u v : Rat}, 0 ≤ u → u ≤ v → u * u ≤ v * v := fun {u v} h k => by
    have h1 := Rat.mul_le_mul_of_nonneg_right k h
    have h2 := Rat.mul_le_mul_of_nonneg_right k (Rat.le_trans h k)
    have h3 : u * v = v * u := Rat.mul_comm u v
    grind
  have sqn : ∀ {u v : Rat}, v ≤ 0 → u ≤ v → v * v ≤ u * u := fun {u v} h k => by
    have := sq (u := -v) (v := -u) (by grind) (by grind)
    have h1 : -v * -v = v * v := by grind
    have h2 : -u * -u = u * u := by grind
    grind
  have nn : 0 ≤ x * x := by
    rcases (Rat.le_total : 0 ≤ x ∨ x ≤ 0) with h | h
    · exact Rat.mul_nonneg h h
    · have := sqn (u := x) (v := 0) Rat.le_refl h
      simpa using this
  unfold Btw at hx m5 ⊢
  left
  rcases (Rat.le_total : 0 ≤ x ∨ x ≤ 0) with h | h <;> rcases hx with ⟨h1, h2⟩ | ⟨h1, h2⟩
  · refine ⟨?_, by have := sq h h2; grind⟩
    rcases (Rat.le_total : 0 ≤ a ∨ a ≤ 0) with k | k
    · have := sq k h1; grind
    · have := m5 (.inl ⟨k, by grind⟩); grind
  · refine ⟨?_, by have := sq h h2; grind⟩
    rcases (Rat.le_total : 0 ≤ b ∨ b ≤ 0) with k | k
    · have := sq k h1; grind
    · have := m5 (.inr ⟨k, by grind⟩); grind
  · refine ⟨?_, by have := sqn h h1; grind⟩
    rcases (Rat.le_total : 0 ≤ b ∨ b ≤ 0) with k | k
    · have := m5 (.inl ⟨by grind, k⟩); grind
    · have := sqn k h2; grind
  · refine ⟨?_, by have := sqn h h1; grind⟩
    rcases (Rat.le_total : 0 ≤ a ∨ a ≤ 0) with k | k
    · have := m5 (.inr ⟨by grind, k⟩); grind
    · have := sqn k h2; grind

/-- The absolute value, as the code tells it. -/
def absQ (r : Rat) : Rat := if r.num < 0 then -r else r
theorem absQ_eq (r : Rat) : absQ r = if r < 0 then -r else r := by
  unfold absQ
  have h : 0 ≤ r.num ↔ 0 ≤ r := Rat.num_nonneg
  have : r.num < 0 ↔ r < 0 := by rw [← Int.not_le, h, Rat.not_le]
  simp [this]
theorem abs_in {a b x : Rat} (hx : Btw a b x) : Btw (lowOf (absQ a) (turnVals (hasQ a b 0) (absQ b) (absQ 0))) (highOf (absQ a) (turnVals (hasQ a b 0) (absQ b) (absQ 0))) (absQ x) := by
  have m1 := lowOf_le_head (absQ a) (turnVals (hasQ a b 0) (absQ b) (absQ 0))
  have m2 : lowOf (absQ a) (turnVals (hasQ a b 0) (absQ b) (absQ 0)) ≤ absQ b := lowOf_le_mem (by unfold turnVals; split <;> simp)
  have m3 := le_highOf_head (absQ a) (turnVals (hasQ a b 0) (absQ b) (absQ 0))
  have m4 : absQ b ≤ highOf (absQ a) (turnVals (hasQ a b 0) (absQ b) (absQ 0)) := le_highOf_mem (by unfold turnVals; split <;> simp)
  have m5 : Btw a b 0 → lowOf (absQ a) (turnVals (hasQ a b 0) (absQ b) (absQ 0)) ≤ absQ 0 := fun h => by
    have := (hasQ_iff a b 0).2 h
    exact lowOf_le_mem (by rw [this]; simp [turnVals])
  generalize lowOf (absQ a) (turnVals (hasQ a b 0) (absQ b) (absQ 0)) = l at *
  generalize highOf (absQ a) (turnVals (hasQ a b 0) (absQ b) (absQ 0)) = g at *
  simp only [absQ_eq] at *
  unfold Btw at *
  grind

theorem hull_low {a b c d x : Rat} (hx : Btw a b x) : Btw (lowOf a [b, c, d]) (highOf a [b, c, d]) x :=
  btw_trans hx (.inl ⟨lowOf_le_head _ _, le_highOf_head _ _⟩) (.inl ⟨lowOf_le_mem (by simp), le_highOf_mem (by simp)⟩)
theorem hull_high {a b c d x : Rat} (hx : Btw c d x) : Btw (lowOf a [b, c, d]) (highOf a [b, c, d]) x :=
  btw_trans hx (.inl ⟨lowOf_le_mem (by simp), le_highOf_mem (by simp)⟩) (.inl ⟨lowOf_le_mem (by simp), le_highOf_mem (by simp)⟩)

/-- The number at a place between the ends. -/
theorem place_in {a b k : Rat} (h0 : 0 ≤ k) (h1 : k ≤ 1) : Btw a b (a + (b - a) * k) := by
  unfold Btw
  rcases (Rat.le_total : a ≤ b ∨ b ≤ a) with h | h
  · left
    have h2 := Rat.mul_nonneg (a := b - a) (b := k) (by grind) h0
    have h3 := Rat.mul_nonneg (a := b - a) (b := 1 - k) (by grind) (by grind)
    grind
  · right
    have h2 := Rat.mul_nonneg (a := a - b) (b := k) (by grind) h0
    have h3 := Rat.mul_nonneg (a := a - b) (b := 1 - k) (by grind) (by grind)
    grind

theorem square_ends (a b : Rat) (P : Rat → Prop) (h1 : P (a * a)) (h2 : P (b * b)) (h3 : Btw a b 0 → P 0) :
    P (lowOf (a * a) (turnVals (hasQ a b 0) (b * b) (0 * 0))) ∧ P (highOf (a * a) (turnVals (hasQ a b 0) (b * b) (0 * 0))) := by
  have key : ∀ x, x = a * a ∨ x ∈ turnVals (hasQ a b 0) (b * b) (0 * 0) → P x := by
    intro x hx
    rcases hx with rfl | hx
    · exact h1
    · unfold turnVals at hx
      split at hx
      · rename_i hh
        have := (hasQ_iff a b 0).1 hh
        simp at hx
        rcases hx with rfl | rfl
        · exact h2
        · simpa using h3 this
      · simp at hx
        subst hx
        exact h2
  exact ⟨key _ (lowOf_mem _ _), key _ (highOf_mem _ _)⟩

theorem num_zero {a : Rat} : a.num = 0 ↔ a = 0 := Rat.num_eq_zero

/-- A quadratic's value at a number of a span lies between the least and the greatest of its values at the ends and at the turn. -/
theorem quad_in {a b c lo hi x : Rat} (hx : Btw lo hi x) : Btw (lowOf (quadAt a b c lo) (quadVals a b c lo hi)) (highOf (quadAt a b c lo) (quadVals a b c lo hi)) (quadAt a b c x) := by
  have e0 : Btw (lowOf (quadAt a b c lo) (quadVals a b c lo hi)) (highOf (quadAt a b c lo) (quadVals a b c lo hi)) (quadAt a b c lo) := .inl ⟨lowOf_le_head _ _, le_highOf_head _ _⟩
  have mem : ∀ {y}, y ∈ quadVals a b c lo hi → Btw (lowOf (quadAt a b c lo) (quadVals a b c lo hi)) (highOf (quadAt a b c lo) (quadVals a b c lo hi)) y := fun h => .inl ⟨lowOf_le_mem h, le_highOf_mem h⟩
  have e1 := mem (y := quadAt a b c hi) (by unfold quadVals turnVals; split; · simp
                                            · split <;> simp)
  by_cases ha : a.num = 0
  · refine btw_trans ?_ e0 e1
    have ha := num_zero.1 ha
    subst ha
    have := mono_mul_left b lo hi x hx
    unfold quadAt Btw at *
    simp only at this
    grind
  · have ht : Btw lo hi (turnOf a b) → Btw (lowOf (quadAt a b c lo) (quadVals a b c lo hi)) (highOf (quadAt a b c lo) (quadVals a b c lo hi)) (quadAt a b c (turnOf a b)) := fun h => mem (by
      have := (hasQ_iff lo hi (turnOf a b)).2 h
      unfold quadVals
      rw [if_neg ha, this]
      simp [turnVals])
    generalize lowOf (quadAt a b c lo) (quadVals a b c lo hi) = l at *
    generalize highOf (quadAt a b c lo) (quadVals a b c lo hi) = g at *
    have ha : ¬ a = 0 := fun h => ha (num_zero.2 h)
    obtain ⟨t, htt⟩ : ∃ t, t = turnOf a b := ⟨_, rfl⟩
    rw [← htt] at ht
    have hb : b = -(t * (a + a)) := by
      have h2 : a + a ≠ 0 := by grind
      rw [htt]
      unfold turnOf
      rw [Rat.mul_assoc, Rat.inv_mul_cancel _ h2]
      grind
    have hq : ∀ y, quadAt a b c y = a * ((y - t) * (y - t)) + quadAt a b c t := fun y => by unfold quadAt; rw [hb]; grind
    have hs : Btw (lo - t) (hi - t) (x - t) := mono_sub_left t lo hi x hx
    have h1 := square_in hs
    obtain ⟨p1, p2⟩ := square_ends (lo - t) (hi - t) (fun y => Btw l g (a * y + quadAt a b c t)) (by rw [← hq lo]; exact e0) (by rw [← hq hi]; exact e1) (fun h => by
      have h2 : Btw lo hi t := by
        unfold Btw at h ⊢
        grind
      have := ht h2
      have h3 : a * 0 + quadAt a b c t = quadAt a b c t := by grind
      rw [h3]; exact this)
    have h4 := mono_mul_right a _ _ _ h1
    have h5 := mono_add_left (quadAt a b c t) _ _ _ h4
    rw [hq x]
    exact btw_trans h5 p1 p2

theorem quad_ends {a b c lo hi y : Rat} (h : y = lowOf (quadAt a b c lo) (quadVals a b c lo hi) ∨ y = highOf (quadAt a b c lo) (quadVals a b c lo hi)) :
    y = quadAt a b c lo ∨ y = quadAt a b c hi ∨ (¬ a.num = 0 ∧ hasQ lo hi (turnOf a b) = true ∧ y = quadAt a b c (turnOf a b)) := by
  have key : ∀ y, y = quadAt a b c lo ∨ y ∈ quadVals a b c lo hi → y = quadAt a b c lo ∨ y = quadAt a b c hi ∨ (¬ a.num = 0 ∧ hasQ lo hi (turnOf a b) = true ∧ y = quadAt a b c (turnOf a b)) := by
    intro y hy
    rcases hy with rfl | hy
    · exact .inl rfl
    · unfold quadVals turnVals at hy
      split at hy
      · simp at hy; exact .inr (.inl hy)
      · rename_i ha
        split at hy
        · rename_i hh
          simp at hy
          rcases hy with h | h
          · exact .inr (.inl h)
          · exact .inr (.inr ⟨ha, hh, h⟩)
        · simp at hy; exact .inr (.inl hy)
  rcases h with rfl | rfl
  · exact key _ (lowOf_mem _ _)
  · exact key _ (highOf_mem _ _)

end Go.Proofs.YtojploidgagmgaaGreatDoor

/- The calls on numbers, at one size, for walks of laws. -/
namespace Go.Proofs.YtojploidgagmgaaGreatDoor
open Go Go.RowKit Go.Proofs Lim

theorem Below.drewn (W : World) : Below W.heap.size W W.drew := (Below.refl _ W).drew
theorem IsQ.drewn {W : World} {v : Value} {r : Rat} (h : IsQ W v r) : IsQ W.drew v r := h.below (Below.drewn W) (Nat.le_refl _)
theorem IsS.drewn {W : World} {v : Value} {l g : Rat} (h : IsS W v l g) : IsS W.drew v l g := h.below (Below.drewn W) (Nat.le_refl _)

/-- A size that is enough for what a law reckons. -/
def Sz (r : Rat) : Prop := Siz r 1000
theorem Siz.sz {r : Rat} {k : Nat} (h : Siz r k) (hk : k ≤ 1000) : Sz r := h.le hk

theorem o_plus (w : World) (hG : Gr w) (v1 v2 : Value) (r s : Rat) (W : World) (hW : Below w.heap.size w W) (h1 : IsQ W v1 r) (h2 : IsQ W v2 s) (z1 : Sz r) (z2 : Sz s) : Calls Tryz.prog 29 #[v1, v2] W (QNew W (r + s)) :=
  plus_q v1 v2 r s 1000 W h1 h2 z1 z2 (by decide) (hG.below hW hG.size)
theorem o_minus (w : World) (hG : Gr w) (v1 v2 : Value) (r s : Rat) (W : World) (hW : Below w.heap.size w W) (h1 : IsQ W v1 r) (h2 : IsQ W v2 s) (z1 : Sz r) (z2 : Sz s) : Calls Tryz.prog 31 #[v1, v2] W (QNew W (r - s)) :=
  minus_q v1 v2 r s 1000 W h1 h2 z1 z2 (by decide) (hG.below hW hG.size)
theorem o_times (w : World) (hG : Gr w) (v1 v2 : Value) (r s : Rat) (W : World) (hW : Below w.heap.size w W) (h1 : IsQ W v1 r) (h2 : IsQ W v2 s) (z1 : Sz r) (z2 : Sz s) : Calls Tryz.prog 33 #[v1, v2] W (QNew W (r * s)) :=
  times_q v1 v2 r s 1000 W h1 h2 z1 z2 (by decide) (hG.below hW hG.size)
theorem o_over (w : World) (hG : Gr w) (v1 v2 : Value) (r s : Rat) (W : World) (h0 : s.num ≠ 0) (hW : Below w.heap.size w W) (h1 : IsQ W v1 r) (h2 : IsQ W v2 s) (z1 : Sz r) (z2 : Sz s) : Calls Tryz.prog 38 #[v1, v2] W (OverQ W (r / s)) :=
  over_q v1 v2 r s 1000 W h1 h2 h0 z1 z2 (by decide) (hG.below hW hG.size)
theorem o_floor (w : World) (hG : Gr w) (v : Value) (r : Rat) (W : World) (hW : Below w.heap.size w W) (h1 : IsQ W v r) (z1 : Sz r) : Calls Tryz.prog 45 #[v] W (QNew W ((r.floor : Int) : Rat)) :=
  floor_q v r 1000 W h1 z1 (by decide) (by decide) (hG.below hW hG.size)
theorem o_ceil (w : World) (hG : Gr w) (v : Value) (r : Rat) (W : World) (hW : Below w.heap.size w W) (h1 : IsQ W v r) (z1 : Sz r) : Calls Tryz.prog 47 #[v] W (QNew W ((r.ceil : Int) : Rat)) :=
  ceil_q v r 1000 W h1 z1 (by decide) (by decide) (hG.below hW hG.size)
theorem o_known (w : World) (hG : Gr w) (W : World) (hW : Below w.heap.size w W) : Calls Tryz.prog 14 #[] W (Val W (.bool true)) := known_any W (hG.below hW hG.size)
theorem o_number (w : World) (hG : Gr w) (l : List UInt8) (W : World) (hl : l.length ≤ 100000) (hW : Below w.heap.size w W) : Calls Tryz.prog 76 #[str l] W (QNew W (readQ l).1) := number_any l W hl (hG.below hW hG.size)

theorem o_neg (v : Value) (r : Rat) (W : World) (h1 : IsQ W v r) : Calls Tryz.prog 41 #[v] W (QNew W (-r)) := neg_q v r W h1
theorem o_one (W : World) : Calls Tryz.prog 19 #[.int .i64 1] W (QNew W 1) := int_q 1 (by decide) (by decide) W
theorem o_eq (v1 v2 : Value) (r : Rat) (W : World) (h1 : IsQ W v1 r) (h2 : IsQ W v2 r) (z1 : Sz r) : Calls Tryz.prog 77 #[v1, v2] W (Val W (.bool true)) := by
  have := equal_any v1 v2 r r 1000 W h1 h2 z1 z1 (by decide)
  rwa [show decide (r = r) = true from decide_eq_true rfl] at this
theorem o_eqs (v1 v2 : Value) (r s : Rat) (W : World) (h1 : IsQ W v1 r) (h2 : IsQ W v2 s) (z1 : Sz r) (z2 : Sz s) : Calls Tryz.prog 77 #[v1, v2] W (Val W (.bool (decide (r = s)))) :=
  equal_any v1 v2 r s 1000 W h1 h2 z1 z2 (by decide)
theorem o_sign (v : Value) (r : Rat) (W : World) (h1 : IsQ W v r) : Calls Tryz.prog 23 #[v] W (Val W (.int .i64 (sign r))) := sign_q v r W h1
theorem o_sign0 (v : Value) (W : World) (h1 : IsQ W v 0) : Calls Tryz.prog 23 #[v] W (Val W (.int .i64 0)) := sign_q v 0 W h1
theorem o_cmp (v1 v2 : Value) (r s : Rat) (W : World) (h1 : IsQ W v1 r) (h2 : IsQ W v2 s) (z1 : Sz r) (z2 : Sz s) : Calls Tryz.prog 35 #[v1, v2] W (Val W (.int .i64 (cmpQ r s))) :=
  cmp_q v1 v2 r s 1000 W h1 h2 z1 z2 (by decide)

/-- long, as a variadic call lays its texts. -/
theorem o_long (ls : List (List UInt8)) (cs : Array Value) (n : Nat) (w : World) (hc : cs = (ls.map str).toArray) (hn : n = ls.length) (hl : (ls.length : Int) ≤ 1000) :
    Calls Tryz.prog 27 #[.slice (some ⟨w.heap.size, 0, none⟩) n n] (w.alloc (.cells cs 9)) (fun e w' => e = .returned (.bool (ls.any (fun x => decide (120 < x.length)))) ∧ Below w.heap.size w w') := by
  subst hc hn
  refine (long_any w.heap.size ls _ (fun i hi => ?_) hl).mono fun e w' ⟨h1, h2⟩ => ⟨h1, h2 ▸ below1 w _⟩
  have h : (w.alloc (.cells (ls.map str).toArray 9)).heap[w.heap.size]? = some (.cells (ls.map str).toArray 9) := by
    show (w.heap.push _)[w.heap.size]? = _
    simp
  unfold World.cell?
  rw [h]
  simp [List.getElem?_map, hi]

theorem long_lens {ls : List (List UInt8)} (h : (ls.any (fun x => decide (120 < x.length))) = false) : ∀ x ∈ ls, x.length ≤ 120 := by
  intro x hx
  have := List.any_eq_false.1 h x hx
  simpa using this

theorem siz_one : Siz (1 : Rat) 1 := siz_int 1 (by decide) (by decide)

/-- One more box of a number. -/
theorem nbox (W : World) (n : Nat) (hn : W.heap.size = n) (a0 a1 a2 a3 : Value) : ∃ W', W.alloc (.cells #[a0, a1, a2, a3] 26) = W' ∧ Below W.heap.size W W' ∧ Box W' n a0 a1 a2 a3 ∧ W'.heap.size = n + 1 := by
  subst hn
  exact ⟨_, rfl, below1 W _, heap_alloc_new W _, by show (W.heap.push _).size = _; simp⟩

theorem sz_read {l : List UInt8} (h : l.length ≤ 120) : Siz (readQ l).1 7 := Siz.read l h (by decide) (by decide)

end Go.Proofs.YtojploidgagmgaaGreatDoor
