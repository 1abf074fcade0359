/- Package exact, part 2: what its functions answer, as laws on the numbers that their values stand for (Leading Next LongDiv ShiftUp ShiftDown DivWord Over GcdWord Reduce Common Dec Ranges Digits). -/
import Derived.Test.YtojploidgagmgaaGreatDoorJ1
import Derived.RegionTactic
import Derived.Test.YtojploidgagmgaaGreatDoorShelf
import Derived.RangeFuncIn
import Derived.RangeFuncSeq
import Derived.Below
import Derived.RangeFuncLeaves
import Derived.Shelf.Abstract
import Derived.OwnWalkIn
import Derived.TacticsInMore
import Derived.LoopNIn
import Derived.LoopIn
set_option linter.unusedVariables false
set_option linter.unusedSimpArgs false

/- leading: the highest bits of two naturals at the same places. -/
namespace Go.Proofs.YtojploidgagmgaaGreatDoor
open Go Go.RowKit Go.Proofs Lim

theorem lead2 {xs : List Nat} {j s : Nat} (hl : xs.length = j + 2) (ok : Ok xs) (hs : s ≤ 64) :
    ∃ r, r < B ^ j * 2 ^ (64 - s) ∧ val xs = (xs[j + 1]?.getD 0 * 2 ^ s + xs[j]?.getD 0 / 2 ^ (64 - s)) * (B ^ j * 2 ^ (64 - s)) + r := by
  have e1 : 2 ^ (64 - s) * 2 ^ s = B := by rw [← Nat.pow_add, B_eq]; congr 1; omega
  have hlow := val_lt (ok.take j)
  rw [List.length_take, Nat.min_eq_left (by omega)] at hlow
  have hp : 0 < 2 ^ (64 - s) := Nat.pow_pos (by omega)
  have hd := Nat.div_add_mod (xs[j]?.getD 0) (2 ^ (64 - s))
  have hm := Nat.mod_lt (xs[j]?.getD 0) hp
  rw [top2 xs j hl]
  refine ⟨B ^ j * (xs[j]?.getD 0 % 2 ^ (64 - s)) + val (xs.take j), ?_, ?_⟩
  · have h1 : B ^ j * (xs[j]?.getD 0 % 2 ^ (64 - s) + 1) ≤ B ^ j * 2 ^ (64 - s) := Nat.mul_le_mul_left _ hm
    rw [Nat.mul_add, Nat.mul_one] at h1
    omega
  · generalize xs[j + 1]?.getD 0 = a at *
    generalize xs[j]?.getD 0 / 2 ^ (64 - s) = q at *
    generalize xs[j]?.getD 0 % 2 ^ (64 - s) = r at *
    generalize xs[j]?.getD 0 = b at *
    generalize val (xs.take j) = v at *
    generalize B ^ j = P at *
    generalize 2 ^ (64 - s) = p at *
    generalize 2 ^ s = t at *
    rw [← hd, ← e1]
    grind

theorem lead1 {ys : List Nat} {j s : Nat} (hl : ys.length = j + 1) (ok : Ok ys) :
    ∃ r, r < B ^ j * 2 ^ (64 - s) ∧ val ys = ys[j]?.getD 0 / 2 ^ (64 - s) * (B ^ j * 2 ^ (64 - s)) + r := by
  have hlow := val_lt (ok.take j)
  rw [List.length_take, Nat.min_eq_left (by omega)] at hlow
  have hp : 0 < 2 ^ (64 - s) := Nat.pow_pos (by omega)
  have hd := Nat.div_add_mod (ys[j]?.getD 0) (2 ^ (64 - s))
  have hm := Nat.mod_lt (ys[j]?.getD 0) hp
  have ev : val ys = val (ys.take j) + B ^ j * ys[j]?.getD 0 := by
    have := val_take_succ ys j (by omega)
    rwa [List.take_of_length_le (by omega)] at this
  rw [ev]
  refine ⟨B ^ j * (ys[j]?.getD 0 % 2 ^ (64 - s)) + val (ys.take j), ?_, ?_⟩
  · have h1 : B ^ j * (ys[j]?.getD 0 % 2 ^ (64 - s) + 1) ≤ B ^ j * 2 ^ (64 - s) := Nat.mul_le_mul_left _ hm
    rw [Nat.mul_add, Nat.mul_one] at h1
    omega
  · generalize ys[j]?.getD 0 / 2 ^ (64 - s) = q at *
    generalize ys[j]?.getD 0 % 2 ^ (64 - s) = r at *
    generalize ys[j]?.getD 0 = b at *
    generalize val (ys.take j) = v at *
    generalize B ^ j = P at *
    generalize 2 ^ (64 - s) = p at *
    rw [← hd]
    grind

theorem low_fits' {t s c : Nat} (hs : s ≤ 64) (hc : c < 2 ^ s) (h : t * 2 ^ s < B) : t * 2 ^ s + c < B := by
  have e1 : 2 ^ (64 - s) * 2 ^ s = B := by rw [← Nat.pow_add, B_eq]; congr 1; omega
  have ht : t < 2 ^ (64 - s) := by rw [← e1] at h; exact Nat.lt_of_mul_lt_mul_right h
  have h3 : (t + 1) * 2 ^ s ≤ 2 ^ (64 - s) * 2 ^ s := Nat.mul_le_mul_right _ ht
  rw [e1, Nat.add_mul, Nat.one_mul] at h3
  omega

/-- The leading bits of x and y: what stands above the same place. -/
structure Leads (x y a b : Nat) : Prop where
  la : a < B
  le : b ≤ a
  split : ∃ K x' y', x' < K ∧ y' < K ∧ x = a * K + x' ∧ y = b * K + y'

/-- What leading leaves. -/
def LeadPost (w : World) (x y : Nat) (e : Ending) (w' : World) : Prop := ∃ a b k, e = .returned (.tuple #[u a, u b]) ∧ Leads x y a b ∧ w' = w.drewN k

theorem lead_le {a b K x y x' y' : Nat} (hx : x = a * K + x') (hy : y = b * K + y') (hx' : x' < K) (h : y ≤ x) : b ≤ a := by
  rcases Nat.lt_or_ge a b with hlt | hge
  · exfalso
    have : (a + 1) * K ≤ b * K := Nat.mul_le_mul_right _ hlt
    rw [Nat.add_mul, Nat.one_mul] at this
    omega
  · exact hge

theorem leading_any (v1 v2 : Value) (m n : Nat) (w : World) (h1 : IsNat w v1 m) (h2 : IsNat w v2 n) (hle : n ≤ m) (hmB : B ≤ m) :
    Calls Tryz.prog 175 #[v1, v2] w (LeadPost w m n) := by
  obtain ⟨xs, s1, t1, rfl⟩ := h1
  obtain ⟨ys, s2, t2, rfl⟩ := h2
  have lxy : ys.length ≤ xs.length := length_le_of_val_le t2 s1.ok (by omega)
  have lx : 2 ≤ xs.length := by
    rcases Nat.lt_or_ge xs.length 2 with h | h
    · exfalso
      have h3 := val_lt s1.ok
      have h4 : B ^ xs.length ≤ B ^ 1 := Nat.pow_le_pow_right B_pos (by omega)
      rw [Nat.pow_one] at h4
      omega
    · exact h
  obtain ⟨j, hj⟩ : ∃ j, xs.length = j + 2 := ⟨xs.length - 2, by omega⟩
  obtain ⟨⟨xa, xc, rfl, hc1, hc2, hr1⟩, ok1⟩ := s1
  obtain ⟨⟨ya, yc, rfl, hd1, hd2, hr2⟩, ok2⟩ := s2
  obtain ⟨xb, xo, rfl, rowx⟩ := hr1 (by omega)
  have htop : 0 < xs[j + 1]?.getD 0 := by
    have hne : xs ≠ [] := by intro h; subst h; simp at lx
    have := t1 hne
    rw [List.getLast_eq_getElem hne] at this
    rw [List.getElem?_eq_getElem (by omega)]
    simp only [Option.getD_some]
    have e : xs.length - 1 = j + 1 := by omega
    simp only [e] at this
    omega
  have htB := ok1.get (j + 1)
  obtain ⟨z1, z2, z3⟩ := lz_spec htop htB
  have cx1 : w.cell? ⟨xb, xo + (j + 1), none⟩ = some (u (xs[j + 1]?.getD 0)) := rowx (j + 1) (by omega)
  have cx2 : w.cell? ⟨xb, xo + j, none⟩ = some (u (xs[j]?.getD 0)) := rowx j (by omega)
  obtain ⟨rx, hrx, exv⟩ := lead2 (s := lz (xs[j + 1]?.getD 0)) hj ok1 (by omega)
  have hx2 := ok1.get j
  have hsh := shr_lt hx2 (s := lz (xs[j + 1]?.getD 0)) (by omega)
  have hfit : xs[j + 1]?.getD 0 * 2 ^ lz (xs[j + 1]?.getD 0) + xs[j]?.getD 0 / 2 ^ (64 - lz (xs[j + 1]?.getD 0)) < B := by
    have h := low_fits' (by omega) hsh z2
    exact h
  unfold maxLen at hc2 hd2
  have e1 : IntKind.u64.wrap ((xs[j + 1]?.getD 0 : Int) * 2 ^ lz (xs[j + 1]?.getD 0)) = ((xs[j + 1]?.getD 0 * 2 ^ lz (xs[j + 1]?.getD 0) : Nat) : Int) := by rw [wrap_shl, Nat.mod_eq_of_lt z2]
  have e3 := div_pow (xs[j]?.getD 0) (64 - lz (xs[j + 1]?.getD 0))
  have e2 := or_add hsh hfit
  have hytop : ys.length = xs.length → ys[j + 1]?.getD 0 ≤ xs[j + 1]?.getD 0 := by
    intro hyl
    have ex := val_take_succ xs (j + 1) (by omega)
    rw [List.take_of_length_le (by omega), Nat.add_comm, Nat.mul_comm] at ex
    have ey := val_take_succ ys (j + 1) (by omega)
    rw [List.take_of_length_le (by omega), Nat.add_comm, Nat.mul_comm] at ey
    have hlow := val_lt (ok1.take (j + 1))
    rw [List.length_take, Nat.min_eq_left (by omega)] at hlow
    have hlow2 := val_lt (ok2.take (j + 1))
    exact lead_le ex ey hlow (by omega)
  obtain ⟨j1, hj1⟩ : ∃ j1, j1 = j + 1 := ⟨_, rfl⟩
  rw [← hj1] at e1 e2 e3 hytop cx1 z1 z2 hsh exv hrx hfit htB
  generalize htg : xs[j1]?.getD 0 = top at *
  generalize hsg : lz top = s at *
  generalize xs[j]?.getD 0 = x2 at *
  generalize x2 / 2 ^ (64 - s) = h at *
  generalize htp : top * 2 ^ s = tp at *
  obtain ⟨A, hA⟩ : ∃ A, A = tp + h := ⟨_, rfl⟩
  rw [← hA] at e2 exv hfit
  have HEX := Lib.hid exv
  have HRX := Lib.hid hrx
  have HFit := Lib.hid hfit
  have HTP := Lib.hid htp
  have HA := Lib.hid hA
  have HSG := Lib.hid hsg
  have HYT := Lib.hid hytop
  have HR2 := Lib.hid hr2
  have HO2 := Lib.hid ok2
  have HE1 := Lib.hid e1
  have HE2 := Lib.hid e2
  have i1 : ((xs.length : Nat) : Int) - 1 = (j1 : Int) := by omega
  have i2 : ((xs.length : Nat) : Int) - 2 = (j : Int) := by omega
  have i3 : (j1 : Int) < ((xs.length : Nat) : Int) := by omega
  have i4 : (j : Int) < ((xs.length : Nat) : Int) := by omega
  have i5 : (0 : Int) ≤ (j : Int) := by omega
  have i6 : (0 : Int) ≤ (j1 : Int) := by omega
  have i7 : (0 : Int) ≤ (s : Int) := by omega
  have i8 : (s : Int) ≤ 63 := by omega
  have HJ := Lib.hid hj
  have HJ1 := Lib.hid hj1
  clear exv hrx hfit htp hA hsg hytop hr1 hr2 ok1 ok2 t1 t2 rowx hj hj1 z2 z3 hsh hx2 htop htg
  clear HE1 HE2
  have HLE := Lib.hid hle
  clear hle hmB lx
  by_cases hl1 : ys.length = xs.length
  · have b1 : (((ys.length : Nat) : Int) == ((xs.length : Nat) : Int)) = true := by rw [hl1]; simp
    have HL1 := Lib.hid hl1
    clear hl1
    obtain ⟨yb, yo, rfl, rowy⟩ := HR2.out (by have := HL1.out; omega)
    have cy1 : w.cell? ⟨yb, yo + j1, none⟩ = some (u (ys[j1]?.getD 0)) := rowy j1 (by have := HL1.out; omega)
    have cy2 : w.cell? ⟨yb, yo + j, none⟩ = some (u (ys[j]?.getD 0)) := rowy j (by have := HL1.out; omega)
    have k3 : (j1 : Int) < ((ys.length : Nat) : Int) := by have := HL1.out; omega
    have k4 : (j : Int) < ((ys.length : Nat) : Int) := by have := HL1.out; omega
    obtain ⟨ry, hry, eyv⟩ := lead2 (xs := ys) (j := j) (s := s) (by have := HL1.out; have := HJ.out; omega) HO2.out (by omega)
    rw [← HJ1.out] at eyv
    have hyt : ys[j1]?.getD 0 * 2 ^ s < B := by
      have h1 : ys[j1]?.getD 0 * 2 ^ s ≤ top * 2 ^ s := Nat.mul_le_mul_right _ (HYT.out HL1.out)
      have := HTP.out
      have := HFit.out
      have := HA.out
      omega
    have hysh := shr_lt (HO2.out.get j) (s := s) (by omega)
    have hyfit := low_fits' (by omega) hysh hyt
    have f1 : IntKind.u64.wrap ((ys[j1]?.getD 0 : Int) * 2 ^ s) = ((ys[j1]?.getD 0 * 2 ^ s : Nat) : Int) := by rw [wrap_shl, Nat.mod_eq_of_lt hyt]
    have f3 := div_pow (ys[j]?.getD 0) (64 - s)
    have f2 := or_add hysh hyfit
    generalize ys[j]?.getD 0 = y2 at *
    generalize ys[j1]?.getD 0 = y1 at *
    generalize y2 / 2 ^ (64 - s) = yh at *
    generalize y1 * 2 ^ s = yp at *
    obtain ⟨C, hC⟩ : ∃ C, C = yp + yh := ⟨_, rfl⟩
    rw [← hC] at f2 eyv
    have HEY := Lib.hid eyv
    have HRY := Lib.hid hry
    clear eyv hry hyt hysh hyfit hC rowy
    go_enter Tryz.func175, Tryz.ntmps175
    go_wp2_with (go_at_call 160; refine (lz_any top htB _).mono ?_; rintro e w' ⟨rfl, rfl⟩; rw [HSG.out])
    go_quiet (fail)
    go_wp2_with fail
    go_quiet (fail)
    go_wp2_with fail
    go_ret2
    exact ⟨A, C, _, rfl, ⟨HFit.out, lead_le HEX.out HEY.out HRX.out HLE.out, B ^ j * 2 ^ (64 - s), _, _, HRX.out, HRY.out, HEX.out, HEY.out⟩, drew2 _ _ _⟩
  · have b1 : (((ys.length : Nat) : Int) == ((xs.length : Nat) : Int)) = false := by rw [beq_eq_false_iff_ne]; omega
    by_cases hl2 : ys.length = j1
    · have b2 : (((ys.length : Nat) : Int) == ((j1 : Nat) : Int)) = true := by rw [hl2]; simp
      have HL2 := Lib.hid hl2
      clear hl1 hl2
      obtain ⟨yb, yo, rfl, rowy⟩ := HR2.out (by have := HL2.out; have := HJ1.out; omega)
      have cy2 : w.cell? ⟨yb, yo + j, none⟩ = some (u (ys[j]?.getD 0)) := rowy j (by have := HL2.out; have := HJ1.out; omega)
      have k4 : (j : Int) < ((ys.length : Nat) : Int) := by have := HL2.out; have := HJ1.out; omega
      obtain ⟨ry, hry, eyv⟩ := lead1 (ys := ys) (j := j) (s := s) (by have := HL2.out; have := HJ1.out; omega) HO2.out
      have f3 := div_pow (ys[j]?.getD 0) (64 - s)
      generalize ys[j]?.getD 0 = y2 at *
      generalize y2 / 2 ^ (64 - s) = yh at *
      have HEY := Lib.hid eyv
      have HRY := Lib.hid hry
      clear eyv hry rowy
      go_enter Tryz.func175, Tryz.ntmps175
      go_wp2_with (go_at_call 160; refine (lz_any top htB _).mono ?_; rintro e w' ⟨rfl, rfl⟩; rw [HSG.out])
      go_quiet (fail)
      go_wp2_with fail
      go_quiet (fail)
      go_wp2_with fail
      go_ret2
      exact ⟨A, yh, _, rfl, ⟨HFit.out, lead_le HEX.out HEY.out HRX.out HLE.out, B ^ j * 2 ^ (64 - s), _, _, HRX.out, HRY.out, HEX.out, HEY.out⟩, drew2 _ _ _⟩
    · have b2 : (((ys.length : Nat) : Int) == ((j1 : Nat) : Int)) = false := by rw [beq_eq_false_iff_ne]; omega
      have hlj : ys.length ≤ j := by have := HJ1.out; have := HJ.out; omega
      have hvy : val ys < B ^ j * 2 ^ (64 - s) := by
        have h1 := val_lt HO2.out
        have h2 : B ^ ys.length ≤ B ^ j := Nat.pow_le_pow_right B_pos hlj
        have h3 : B ^ j * 1 ≤ B ^ j * 2 ^ (64 - s) := Nat.mul_le_mul_left _ (Nat.pow_pos (by omega))
        omega
      have HVY := Lib.hid hvy
      clear hl1 hl2 hvy hlj
      go_enter Tryz.func175, Tryz.ntmps175
      go_wp2_with (go_at_call 160; refine (lz_any top htB _).mono ?_; rintro e w' ⟨rfl, rfl⟩; rw [HSG.out])
      go_quiet (fail)
      go_wp2_with fail
      go_ret2
      exact ⟨A, 0, _, rfl, ⟨HFit.out, Nat.zero_le _, B ^ j * 2 ^ (64 - s), _, val ys, HRX.out, HVY.out, HEX.out, by rw [Nat.zero_mul, Nat.zero_add]⟩, rfl⟩

end Go.Proofs.YtojploidgagmgaaGreatDoor

/- nextLimb: one limb of a quotient. -/
namespace Go.Proofs.YtojploidgagmgaaGreatDoor
open Go Go.RowKit Go.Proofs Lim

theorem val_window (L : List Nat) (so n : Nat) (h : so + n ≤ L.length) :
    val L = val (L.take so) + B ^ so * val ((L.drop so).take n) + B ^ (so + n) * val (L.drop (so + n)) := by
  rw [val_take_drop L so (by omega), val_take_drop (L.drop so) n (by rw [List.length_drop]; omega), List.drop_drop, Nat.pow_add, Nat.mul_add, Nat.mul_assoc]
  omega

theorem window_lt {L : List Nat} (ok : Ok L) (so n : Nat) (h : so + n ≤ L.length) : val ((L.drop so).take n) < B ^ n := by
  have := val_lt ((ok.drop so).take n)
  rwa [List.length_take, List.length_drop, Nat.min_eq_left (by omega)] at this

theorem win_eq (a P Q W1 W2 x c b : Nat) (hP : 0 < P) (h : a + P * W1 + P * Q * b + P * x = a + P * W2 + P * Q * b + P * Q * c) : W1 + x = W2 + Q * c := by
  have : P * (W1 + x) = P * (W2 + Q * c) := by rw [Nat.mul_add, Nat.mul_add, ← Nat.mul_assoc]; omega
  exact Nat.eq_of_mul_eq_mul_left hP this

theorem Taken.window {L L' : List Nat} {so n x c : Nat} (h : Taken L L' so n x c) (hn : so + n ≤ L.length) :
    val ((L'.drop so).take n) + x = val ((L.drop so).take n) + B ^ n * c := by
  have h1 := h.sum
  rw [val_window L so n hn, val_window L' so n (by rw [h.len]; exact hn), h.low, h.high, Nat.pow_add] at h1
  exact win_eq _ _ _ _ _ _ _ _ (Nat.pow_pos B_pos) h1

theorem Added.window {L L' : List Nat} {so n x c : Nat} (h : Added L L' so n x c) (hn : so + n ≤ L.length) :
    val ((L.drop so).take n) + x = val ((L'.drop so).take n) + B ^ n * c := by
  have h1 := h.sum
  rw [val_window L so n hn, val_window L' so n (by rw [h.len]; exact hn), h.low, h.high, Nat.pow_add] at h1
  exact win_eq _ _ _ _ _ _ _ _ (Nat.pow_pos B_pos) h1.symm

theorem back_eq (P U V W1 W2 c c2 g q : Nat) (h1 : W1 + g * V = U + P * c) (h2 : W1 + V = W2 + P * c2) (hg : g = q + 1) (hq : q * V ≤ U) (hr : U - q * V < P) (hW : W2 < P) :
    c2 = c ∧ W2 = U - q * V := by
  subst hg
  rw [Nat.add_mul, Nat.one_mul] at h1
  have h3 : W2 + P * c2 = (U - q * V) + P * c := by omega
  have := val_eq_of_lt h3 hW hr
  exact ⟨this.2, this.1⟩

/-- The limb was one too great: what was taken too much is given back. -/
theorem Taken.back {R R1 R2 : List Nat} {ro N v g q c c2 : Nat} (h : Taken R R1 ro N (g * v) c) (h' : Added R1 R2 ro N v c2) (hn : ro + N ≤ R.length) (hg : g = q + 1)
    (hq : q * v ≤ val ((R.drop ro).take N)) (hr : val ((R.drop ro).take N) - q * v < B ^ N) : Taken R R2 ro N (q * v) 0 := by
  have h1 := h.window hn
  have h2 := h'.window (by rw [h.len]; exact hn)
  have h3 := window_lt h'.ok ro N (by rw [h'.len, h.len]; exact hn)
  obtain ⟨e1, _⟩ := back_eq _ _ _ _ _ _ _ _ _ h1 h2 hg hq hr h3
  subst e1
  refine ⟨by rw [h'.len, h.len], h'.ok, by rw [h'.low, h.low], by rw [h'.high, h.high], ?_⟩
  have s1 := h.sum
  have s2 := h'.sum
  rw [hg, Nat.add_mul, Nat.one_mul, Nat.mul_add] at s1
  rw [Nat.mul_zero, Nat.add_zero]
  omega

/-- What nextLimb leaves. -/
def NextPost (w : World) (rb ro N : Nat) (R : List Nat) (q v : Nat) (e : Ending) (w' : World) : Prop :=
  ∃ R', e = .returned (u q) ∧ Only rb w w' ∧ Blk w' rb R' ∧ Taken R R' ro N (q * v) 0

theorem get_window (R : List Nat) (ro N i : Nat) (h : i < N) : ((R.drop ro).take N)[i]?.getD 0 = R[ro + i]?.getD 0 := by
  rw [List.getElem?_take, if_pos h, List.getElem?_drop]

theorem nextLimb_any (rb ro rc n N : Nat) (db dof : Nat) (dc : Nat) (R D : List Nat) (w : World) (hN : N = n + 1) (h2 : 2 ≤ n) (hDl : D.length = n)
    (hR : Blk w rb R) (hn : ro + N ≤ R.length) (hD : Row w db dof D) (hne : db ≠ rb) (okR : Ok R) (okD : Ok D) (hnorm : B ≤ 2 * D[n - 1]?.getD 0)
    (hU : val ((R.drop ro).take N) < val D * B) (hmax : (n : Int) ≤ 1073741827) :
    Calls Tryz.prog 162 #[.slice (some ⟨rb, ro, none⟩) N rc, .slice (some ⟨db, dof, none⟩) n dc] w (NextPost w rb ro N R (val ((R.drop ro).take N) / val D) (val D)) := by
  subst hDl
  obtain ⟨j, hj⟩ : ∃ j, D.length = j + 2 := ⟨D.length - 2, by omega⟩
  have okW : Ok ((R.drop ro).take N) := (okR.drop _).take _
  have hWl : ((R.drop ro).take N).length = N := by rw [List.length_take, List.length_drop]; omega
  have hvp : 0 < val D := by
    rcases Nat.eq_zero_or_pos (val D) with h | h
    · rw [h] at hU; omega
    · exact h
  have hT := Tops.of (D := D) (W := (R.drop ro).take N) (j := j) (by omega) (by omega) okD okW hvp
  rw [get_window _ _ _ _ (by omega), get_window _ _ _ _ (by omega), get_window _ _ _ _ (by omega)] at hT
  have hqB : val ((R.drop ro).take N) / val D < B := Nat.div_lt_of_lt_mul hU
  have hql : val ((R.drop ro).take N) / val D * val D ≤ val ((R.drop ro).take N) := Nat.div_mul_le_self _ _
  have hqu : val ((R.drop ro).take N) < (val ((R.drop ro).take N) / val D + 1) * val D := by rw [Nat.mul_comm]; exact Nat.lt_mul_div_succ _ hvp
  have hvlt : val D < B ^ N := by
    have := val_lt okD
    have h3 : B ^ D.length ≤ B ^ N := Nat.pow_le_pow_right B_pos (by omega)
    omega
  rw [show D.length - 1 = j + 1 from by omega] at hnorm
  have c0 : w.cell? ⟨rb, ro + (j + 2), none⟩ = _ := hR.cell (ro + (j + 2)) (by omega)
  have c1 : w.cell? ⟨rb, ro + (j + 1), none⟩ = _ := hR.cell (ro + (j + 1)) (by omega)
  have c2 : w.cell? ⟨rb, ro + j, none⟩ = _ := hR.cell (ro + j) (by omega)
  have d1 : w.cell? ⟨db, dof + (j + 1), none⟩ = _ := hD (j + 1) (by omega)
  have d2 : w.cell? ⟨db, dof + j, none⟩ = _ := hD j (by omega)
  have HG : Calls Tryz.prog 181 #[.slice (some ⟨rb, ro, none⟩) N rc, .slice (some ⟨db, dof, none⟩) D.length dc] w (GuessPost w (val ((R.drop ro).take N) / val D)) :=
    guessLimb_any rb ro rc D.length (j + 1) j N db dof dc _ _ _ _ _ _ w (by omega) (by omega) hN (by rw [hj]; exact c0) c1 c2 d1 d2 hT (okR.get _) (okD.get _) hnorm hqB hmax
  generalize hq : val ((R.drop ro).take N) / val D = q at *
  have HGG := Lib.hid HG
  have HR := Lib.hid hR
  have HD := Lib.hid hD
  have HOR := Lib.hid okR
  have HOD := Lib.hid okD
  have HN := Lib.hid hN
  have Hql := Lib.hid hql
  have Hqu := Lib.hid hqu
  have Hvl := Lib.hid hvlt
  clear HG hR hD okR okD hN hT c0 c1 c2 d1 d2 okW hWl hq hj hql hqu hU hvp hvlt
  go_enter Tryz.func162, Tryz.ntmps162
  go_wp2_with fail
  refine HGG.out.mono ?_
  rintro e w' ⟨g, k, rfl, hg1, hg2, hgB, rfl⟩
  go_wp2_with fail
  refine (takeMultiple_any rb ro N rc dc R D (some ⟨db, dof, none⟩) g (w.drewN k) (show Blk (w.drewN k) rb R from HR.out) hn (by have := HN.out; omega) (by have := HN.out; omega) hgB HOR.out HOD.out
    (fun _ => ⟨db, dof, rfl, hne, HD.out⟩)).mono ?_
  rintro e w2 ⟨c, R1, hc, rfl, hO2, hB2, hA2⟩
  have HB2 := Lib.hid hB2
  have HO2 := Lib.hid (((Only.refl rb w).drewN k).trans hO2)
  have HA2 := Lib.hid hA2
  clear hB2 hO2 hA2
  have hwin := HA2.out.window hn
  rw [Nat.mul_comm (B ^ N) c] at hwin
  by_cases hc0 : c = 0
  · have hgq : g = q := by
      subst hc0
      rcases Nat.lt_or_ge q g with h | h
      · exfalso
        have h1 : (q + 1) * val D ≤ g * val D := Nat.mul_le_mul_right _ h
        have := Hqu.out
        omega
      · omega
    subst hgq
    have hb : (((c : Nat) : Int) != 0) = false := by subst hc0; rfl
    have HC0 := Lib.hid hc0
    clear hc0 hwin
    go_wp2_with fail
    go_ret
    refine ⟨R1, rfl, HO2.out, HB2.out, ?_⟩
    have := HA2.out
    rw [HC0.out] at this
    exact this
  · have hb : (((c : Nat) : Int) != 0) = true := by rw [bne_iff_ne]; omega
    have hgq : g = q + 1 := by
      rcases Nat.lt_or_ge q g with h | h
      · omega
      · exfalso
        have hgg : g = q := by omega
        subst hgg
        have h1 := window_lt HA2.out.ok ro N (by rw [HA2.out.len]; exact hn)
        have h2 : 1 * B ^ N ≤ c * B ^ N := Nat.mul_le_mul_right _ (by omega)
        have := Hql.out
        omega
    have hgi : IntKind.u64.wrap ((g : Int) - 1) = (q : Int) := by
      rw [hgq, show (((q + 1 : Nat) : Int) - 1) = ((q : Nat) : Int) from by omega, wrap_nat (by omega)]
    have HGQ := Lib.hid hgq
    clear hc0 hwin hgq
    go_wp2_with fail
    refine (addMultiple_one rb ro N rc dc R1 D (some ⟨db, dof, none⟩) w2 HB2.out (by rw [HA2.out.len]; exact hn) (by have := HN.out; omega) (by have := HN.out; omega) HA2.out.ok HOD.out
      (fun _ => ⟨db, dof, rfl, hne, HO2.out.row hne HD.out⟩)).mono ?_
    rintro e w3 ⟨rfl, hO3, c2, R2, hB3, hA3⟩
    have HB3 := Lib.hid hB3
    have HO3 := Lib.hid (HO2.out.trans hO3)
    have HA3 := Lib.hid hA3
    clear hB3 hO3 hA3
    go_wp2_with fail
    go_ret
    refine ⟨R2, rfl, HO3.out, HB3.out, HA2.out.back HA3.out hn HGQ.out Hql.out ?_⟩
    have := Hqu.out
    have := Hvl.out
    rw [Nat.add_mul] at *
    omega

end Go.Proofs.YtojploidgagmgaaGreatDoor

/- The mathematics of the long division. -/
namespace Go.Proofs.YtojploidgagmgaaGreatDoor
open Go Go.RowKit Go.Proofs Lim

/-- How far a long division of X by v has come: the limbs of the quotient from j on are there. -/
structure Long (X v : Nat) (R QL : List Nat) (nr lc j : Nat) : Prop where
  lenR : R.length = nr
  lenQ : QL.length = lc
  okR : Ok R
  okQ : Ok QL
  lt : val R < v * B ^ j
  sum : X = val R + v * (B ^ j * val (QL.drop j))

theorem Long.window_lt {X v : Nat} {R QL : List Nat} {nr lc j n : Nat} (h : Long X v R QL nr lc (j + 1)) (hn : j + (n + 1) ≤ nr) : val ((R.drop j).take (n + 1)) < v * B := by
  have h1 := val_window R j (n + 1) (by rw [h.lenR]; exact hn)
  have h2 := h.lt
  have h3 : B ^ j * val ((R.drop j).take (n + 1)) ≤ val R := by
    rw [h1]
    generalize val (R.take j) = a
    generalize B ^ j * val ((R.drop j).take (n + 1)) = b
    generalize B ^ (j + (n + 1)) * val (R.drop (j + (n + 1))) = c
    omega
  have h4 : B ^ j * val ((R.drop j).take (n + 1)) < B ^ j * (v * B) := by
    have e : v * B ^ (j + 1) = B ^ j * (v * B) := by rw [Nat.pow_succ]; grind
    rw [e] at h2
    exact Nat.lt_of_le_of_lt h3 h2
  exact Nat.lt_of_mul_lt_mul_left h4

theorem top_zero (P a W Q c V : Nat) (h : a + P * W + P * Q * c < P * V) (hV : V ≤ Q) : c = 0 := by
  rcases Nat.eq_zero_or_pos c with h0 | h0
  · exact h0
  · exfalso
    have h1 : P * Q * 1 ≤ P * Q * c := Nat.mul_le_mul_left _ h0
    have h2 : P * V ≤ P * Q := Nat.mul_le_mul_left _ hV
    omega

theorem rest_lt (P a W v q R' R : Nat) (ha : a < P) (hR : R = a + P * W) (hq : W < (q + 1) * v) (hs : R' + P * (q * v) = R) : R' < v * P := by
  have h1 : P * W < P * ((q + 1) * v) ∨ P = 0 := by
    rcases Nat.eq_zero_or_pos P with h | h
    · exact .inr h
    · exact .inl ((Nat.mul_lt_mul_left h).2 hq)
  rcases h1 with h1 | h1
  · have h2 : P * (W + 1) ≤ P * ((q + 1) * v) := Nat.mul_le_mul_left _ hq
    rw [Nat.add_mul q 1 v, Nat.one_mul, Nat.mul_add, Nat.mul_add, Nat.mul_one] at h2
    rw [Nat.mul_comm v P]
    omega
  · omega

theorem Long.step {X v : Nat} {R R' QL : List Nat} {nr lc j n : Nat} (h : Long X v R QL nr lc (j + 1)) (hn : j + (n + 1) ≤ nr) (hj : j < lc) (hv : 0 < v) (hvn : v < B ^ n)
    (ht : Taken R R' j (n + 1) (val ((R.drop j).take (n + 1)) / v * v) 0) (hqB : val ((R.drop j).take (n + 1)) / v < B) :
    Long X v R' (QL.set j (val ((R.drop j).take (n + 1)) / v)) nr lc j := by
  have h1 := val_window R j (n + 1) (by rw [h.lenR]; exact hn)
  have h2 := h.lt
  have hz : val (R.drop (j + (n + 1))) = 0 := by
    rw [h1, Nat.pow_add] at h2
    have e : v * B ^ (j + 1) = B ^ j * (v * B) := by rw [Nat.pow_succ]; grind
    rw [e] at h2
    refine top_zero _ _ _ _ _ _ h2 ?_
    rw [Nat.pow_succ]
    exact Nat.mul_le_mul_right _ (Nat.le_of_lt hvn)
  rw [hz, Nat.mul_zero, Nat.add_zero] at h1
  have hq : val ((R.drop j).take (n + 1)) < (val ((R.drop j).take (n + 1)) / v + 1) * v := by rw [Nat.mul_comm]; exact Nat.lt_mul_div_succ _ hv
  generalize hW : val ((R.drop j).take (n + 1)) = W at *
  generalize hqg : W / v = q at *
  have hs := ht.sum
  rw [Nat.mul_zero, Nat.add_zero] at hs
  have ha : val (R.take j) < B ^ j := by
    have := val_lt (h.okR.take j); rwa [List.length_take, Nat.min_eq_left (by have := h.lenR; omega)] at this
  refine ⟨by rw [ht.len, h.lenR], by rw [List.length_set, h.lenQ], ht.ok, h.okQ.set _ _ hqB, rest_lt _ _ _ _ _ _ _ ha h1 hq hs, ?_⟩
  have hd : (QL.set j q).drop j = q :: QL.drop (j + 1) := by
    rw [List.drop_eq_getElem_cons (by rw [List.length_set, h.lenQ]; exact hj), List.getElem_set_self, List.drop_set, if_pos (by omega)]
  rw [hd, val, h.sum, ← hs, Nat.pow_succ]
  generalize val R' = r
  generalize val (QL.drop (j + 1)) = z
  generalize B ^ j = P
  grind

theorem Long.done {m n p X : Nat} {R QL : List Nat} {nr lc : Nat} (h : Long X (n * p) R QL nr lc 0) (hX : X = m * p) (hp : 0 < p) (hn : 0 < n) : val QL = m / n ∧ val R / p = m % n := by
  have h1 := h.sum
  have h2 := h.lt
  rw [Nat.pow_zero, Nat.one_mul, List.drop_zero] at h1
  rw [Nat.pow_zero, Nat.mul_one] at h2
  subst hX
  have e1 : val QL = m * p / (n * p) := by
    rw [h1, Nat.add_mul_div_left _ _ (Nat.mul_pos hn hp), Nat.div_eq_of_lt h2, Nat.zero_add]
  have e2 : val R = m * p % (n * p) := by rw [h1, Nat.add_mul_mod_self_left, Nat.mod_eq_of_lt h2]
  rw [e1, e2, Nat.mul_div_mul_right _ _ hp, Nat.mul_mod_mul_right, Nat.mul_div_cancel _ hp]
  exact ⟨rfl, rfl⟩

/-- The divisor, with its highest bit set. -/
theorem norm_len {D ys : List Nat} {s : Nat} (tD : Trim D) (okD : Ok D) (hD : val D = val ys * 2 ^ s) (okY : Ok ys) (k : Nat) (hk : ys.length = k + 1)
    (h1 : ys[k]?.getD 0 * 2 ^ s < B) (h2 : B ≤ 2 * (ys[k]?.getD 0 * 2 ^ s)) : D.length = k + 1 ∧ B ≤ 2 * D[k]?.getD 0 ∧ B ^ (k + 1) ≤ 2 * val D := by
  have ey : val ys = val (ys.take k) + B ^ k * ys[k]?.getD 0 := by
    have := val_take_succ ys k (by omega)
    rwa [List.take_of_length_le (by omega)] at this
  have hlow : val (ys.take k) < B ^ k := by
    have := val_lt (okY.take k); rwa [List.length_take, Nat.min_eq_left (by omega)] at this
  generalize ys[k]?.getD 0 = t at *
  generalize val (ys.take k) = a at *
  have hup : val D < B ^ (k + 1) := by
    -- (t + 1) * 2^s ≤ B, for B is a multiple of 2^s
    rw [hD, ey, Nat.pow_succ]
    have hs63 : s ≤ 64 := by
      rcases Nat.lt_or_ge s 65 with h | h
      · omega
      · exfalso
        have h3 : 2 ^ 65 ≤ 2 ^ s := Nat.pow_le_pow_right (by omega) h
        have h4 : (2 : Nat) ^ 65 = 2 * B := by decide
        rcases Nat.eq_zero_or_pos t with ht | ht
        · subst ht
          have := B_pos
          omega
        · have h5 : 1 * 2 ^ s ≤ t * 2 ^ s := Nat.mul_le_mul_right _ ht
          have := B_pos
          omega
    have e1 : 2 ^ (64 - s) * 2 ^ s = B := by rw [← Nat.pow_add, B_eq]; congr 1; omega
    have ht : t < 2 ^ (64 - s) := by rw [← e1] at h1; exact Nat.lt_of_mul_lt_mul_right h1
    have h3 : (t + 1) * 2 ^ s ≤ 2 ^ (64 - s) * 2 ^ s := Nat.mul_le_mul_right _ ht
    rw [e1] at h3
    have h4 : (a + B ^ k * t) < B ^ k * (t + 1) := by rw [Nat.mul_add, Nat.mul_one]; omega
    have hp : 0 < 2 ^ s := Nat.pow_pos (by omega)
    have h5 : (a + B ^ k * t) * 2 ^ s < B ^ k * (t + 1) * 2 ^ s := (Nat.mul_lt_mul_right hp).2 h4
    have h6 : B ^ k * ((t + 1) * 2 ^ s) ≤ B ^ k * B := Nat.mul_le_mul_left _ h3
    rw [← Nat.mul_assoc] at h6
    omega
  have hlo : B ^ (k + 1) ≤ 2 * val D := by
    rw [hD, ey, Nat.pow_succ, Nat.add_mul, Nat.mul_add, Nat.mul_assoc]
    have h3 : B ^ k * B ≤ B ^ k * (2 * (t * 2 ^ s)) := Nat.mul_le_mul_left _ h2
    have e : B ^ k * (2 * (t * 2 ^ s)) = 2 * (B ^ k * (t * 2 ^ s)) := by rw [Nat.mul_left_comm]
    omega
  have hlen : D.length = k + 1 := by
    have l1 := IsNat.len tD rfl hup
    have l2 : k < D.length := by
      have h3 := val_lt okD
      have h4 : B ^ k * 2 ≤ B ^ k * B := Nat.mul_le_mul_left _ two_le_B
      rw [Nat.pow_succ] at hlo
      have h5 : B ^ k < B ^ D.length ∨ B ^ k = val D := by omega
      rcases h5 with h5 | h5
      · exact (Nat.pow_lt_pow_iff_right (show 1 < B by decide)).1 h5
      · rw [h5] at *
        have h6 : B ^ k < B ^ D.length := by omega
        exact (Nat.pow_lt_pow_iff_right (show 1 < B by decide)).1 h6
    omega
  refine ⟨hlen, ?_, hlo⟩
  have eD : val D = val (D.take k) + B ^ k * D[k]?.getD 0 := by
    have := val_take_succ D k (by omega)
    rwa [List.take_of_length_le (by omega)] at this
  have hl2 : val (D.take k) < B ^ k := by
    have := val_lt (okD.take k); rwa [List.length_take, Nat.min_eq_left (by omega)] at this
  generalize D[k]?.getD 0 = d at *
  rw [eD, Nat.pow_succ] at hlo
  have h7 : B ^ k * B < B ^ k * (2 * (d + 1)) := by
    have e : B ^ k * (2 * (d + 1)) = 2 * (B ^ k * d) + 2 * B ^ k := by rw [Nat.mul_left_comm, Nat.mul_add, Nat.mul_add, Nat.mul_one]
    omega
  have h8 := Nat.lt_of_mul_lt_mul_left h7
  have : B % 2 = 0 := by decide
  omega

theorem Long.start {xs D R : List Nat} {s lx lc : Nat} (hR : val R = val xs * 2 ^ s) (okR : Ok R) (hlR : R.length = lx + 1) (okX : Ok xs) (hlx : xs.length = lx) (hs : s ≤ 63)
    (hD : B ^ D.length ≤ 2 * val D) (hlc : lc + D.length = lx + 1) : Long (val xs * 2 ^ s) (val D) R (List.replicate lc 0) (lx + 1) lc lc := by
  refine ⟨hlR, by simp, okR, Ok.replicate _, ?_, by rw [hR, List.drop_of_length_le (by simp)]; simp [val]⟩
  have h1 := val_lt okX
  rw [hlx] at h1
  have h2 : 2 ^ s ≤ 2 ^ 63 := Nat.pow_le_pow_right (by omega) hs
  have e1 : 2 * 2 ^ 63 = B := by decide
  have h3 : val xs * 2 ^ s ≤ val xs * 2 ^ 63 := Nat.mul_le_mul_left _ h2
  have h4 : val xs * 2 ^ 63 < B ^ lx * 2 ^ 63 := (Nat.mul_lt_mul_right (Nat.pow_pos (by omega))).2 h1
  have h5 : B ^ D.length * B ^ lc ≤ 2 * val D * B ^ lc := Nat.mul_le_mul_right _ hD
  have e2 : B ^ lx * B = 2 * (B ^ lx * 2 ^ 63) := by rw [show B ^ lx * B = B ^ lx * (2 * 2 ^ 63) from by rw [e1], Nat.mul_left_comm]
  rw [← Nat.pow_add, show D.length + lc = lx + 1 from by omega, Nat.pow_succ, e2, Nat.mul_assoc] at h5
  rw [hR]
  omega

end Go.Proofs.YtojploidgagmgaaGreatDoor

/- shiftUp: limbs with all bits higher. -/
namespace Go.Proofs.YtojploidgagmgaaGreatDoor
open Go Go.RowKit Go.Proofs Lim

theorem low_part {x s : Nat} (hs : s ≤ 64) : x * 2 ^ s % B = x % 2 ^ (64 - s) * 2 ^ s := by
  have e1 : 2 ^ (64 - s) * 2 ^ s = B := by rw [← Nat.pow_add, B_eq]; congr 1; omega
  rw [← e1, Nat.mul_mod_mul_right]

theorem low_fits {x s c : Nat} (hs : s ≤ 64) (hc : c < 2 ^ s) : x % 2 ^ (64 - s) * 2 ^ s + c < B := by
  have e1 : 2 ^ (64 - s) * 2 ^ s = B := by rw [← Nat.pow_add, B_eq]; congr 1; omega
  have h1 : x % 2 ^ (64 - s) < 2 ^ (64 - s) := Nat.mod_lt _ (Nat.pow_pos (by omega))
  have h2 : (x % 2 ^ (64 - s) + 1) * 2 ^ s ≤ 2 ^ (64 - s) * 2 ^ s := Nat.mul_le_mul_right _ h1
  rw [Nat.add_mul, Nat.one_mul, e1] at h2
  omega

theorem or_low {x s c : Nat} (hs : s ≤ 64) (hc : c < 2 ^ s) : bits .or .u64 (c : Int) ((x * 2 ^ s % B : Nat) : Int) = ((x * 2 ^ s % B + c : Nat) : Int) := by
  rw [low_part hs]
  exact or_add' hc (low_fits hs hc)

/-- How far a shift has come: k limbs are done, and the next one has the bits that have left the last one. -/
structure Up (xs L : List Nat) (s k : Nat) : Prop where
  len : L.length = xs.length + 1
  ok : Ok L
  next : L[k]?.getD 0 < 2 ^ s
  zeros : ∀ j, k < j → L[j]?.getD 0 = 0
  sum : val L = val (xs.take k) * 2 ^ s

theorem Up.start (xs : List Nat) (s : Nat) : Up xs (List.replicate (xs.length + 1) 0) s 0 :=
  ⟨by simp, Ok.replicate _, by simp; exact Nat.pow_pos (by omega), fun j _ => by rw [List.getElem?_replicate]; split <;> rfl, by rw [val_replicate]; simp [val]⟩

theorem Up.step {xs L : List Nat} {s k : Nat} (h : Up xs L s k) (hk : k < xs.length) (okx : Ok xs) (hs : s ≤ 64) :
    Up xs ((L.set k (xs[k]?.getD 0 * 2 ^ s % B + L[k]?.getD 0)).set (k + 1) (xs[k]?.getD 0 / 2 ^ (64 - s))) s (k + 1) := by
  have hx := okx.get k
  generalize hxe : xs[k]?.getD 0 = x at *
  have h1 : x * 2 ^ s % B + L[k]?.getD 0 < B := by rw [low_part hs]; exact low_fits hs h.next
  have h2 : x / 2 ^ (64 - s) < 2 ^ s := shr_lt hx hs
  have h3 : x / 2 ^ (64 - s) < B := Nat.lt_of_le_of_lt (Nat.div_le_self _ _) hx
  have hl1 : k < L.length := by rw [h.len]; omega
  have hl2 : k + 1 < (L.set k (x * 2 ^ s % B + L[k]?.getD 0)).length := by rw [List.length_set, h.len]; omega
  refine ⟨by simp [h.len], (h.ok.set _ _ h1).set _ _ h3, ?_, ?_, ?_⟩
  · rw [List.getElem?_set_self hl2]; exact h2
  · intro j hj
    rw [List.getElem?_set_ne (by omega), List.getElem?_set_ne (by omega)]
    exact h.zeros j (by omega)
  · have v1 := val_set L k (x * 2 ^ s % B + L[k]?.getD 0) hl1
    have v2 := val_set (L.set k (x * 2 ^ s % B + L[k]?.getD 0)) (k + 1) (x / 2 ^ (64 - s)) hl2
    rw [List.getElem?_set_ne (by omega), h.zeros (k + 1) (by omega), Nat.mul_zero, Nat.add_zero] at v2
    rw [v2, val_take_succ xs k hk, hxe, Nat.add_mul, ← h.sum]
    have hsp := shl_split x s hs
    have e : B ^ k * x * 2 ^ s = B ^ (k + 1) * (x / 2 ^ (64 - s)) + B ^ k * (x * 2 ^ s % B) := by
      rw [Nat.mul_assoc, hsp, Nat.mul_add, Nat.pow_succ, Nat.mul_assoc, Nat.mul_comm B (x / 2 ^ (64 - s))]
      rw [← hsp]
    rw [e]
    rw [Nat.mul_add] at v1
    omega

/-- What shiftUp leaves: new limbs. -/
def UpPost (w : World) (n v : Nat) (e : Ending) (w' : World) : Prop :=
  ∃ b L, e = .returned (.slice (some ⟨b, 0, none⟩) n n) ∧ w.heap.size ≤ b ∧ Blk w' b L ∧ L.length = n ∧ Ok L ∧ val L = v ∧ Below w.heap.size w w'

theorem shiftUp_any (v1 : Value) (xs : List Nat) (s : Nat) (w : World) (h1 : Sl w v1 xs) (hs : s ≤ 63) (hk : (xs.length : Int) ≤ 1073741825) :
    Calls Tryz.prog 161 #[v1, .int .i64 (s : Int)] w (UpPost w (xs.length + 1) (val xs * 2 ^ s)) := by
  obtain ⟨⟨xa, xc, rfl, hc1, hc2, hr1⟩, ok1⟩ := h1
  obtain ⟨i0, hi, hz0, hz1, hz2⟩ := info_parts info_u64
  unfold maxLen at hc2
  have HR1 := Lib.hid hr1
  have HO1 := Lib.hid ok1
  clear hr1 ok1
  have hs0 : (0 : Int) ≤ (s : Int) := by omega
  have hs1 : (s : Int) ≤ 63 := by omega
  go_enter Tryz.func161, Tryz.ntmps161
  go_wp2_with (at_make; refine wpList_make_full _ rfl _ _ 116 rfl w.heap.size 23 i0 (.int .u64 0) 1 Tryz.underlying116 hi hz0 hz1 _ _ _ _ (xs.length + 1) rfl rfl (by omega) (by omega) ?qb2 ?qb3 ?qb4 ?_)
  case qb2 => rw [hz2]; omega
  case qb3 => unfold maxLen; omega
  case qb4 => exact Nat.le_refl _
  intro w1 hown hgrow
  obtain ⟨hB1, hbel⟩ := made_blk hown hgrow
  clear hown hgrow hi hz0 hz1 hz2
  have HB1 := Lib.hid hB1
  have HBel := Lib.hid hbel
  clear hB1 hbel
  go_wp2_with fail
  go_loopw [13] (fun i wr => ∃ k L, k ≤ xs.length ∧ i = .int .i64 (k : Int) ∧ Hid (Blk wr w.heap.size L) ∧ Hid (Up xs L s k) ∧ Hid (Below w.heap.size w wr)) (fun i _ => xs.length - (intOf i).toNat)
  case atStart => exact ⟨0, _, Nat.zero_le _, rfl, HB1.out, Up.start xs s, HBel.out⟩
  case round =>
    obtain ⟨k, L, hk', rfl, hB, hU, hBe⟩ := hrel
    by_cases hlt : k < xs.length
    · obtain ⟨xb, xo, rfl, hxrow⟩ := HR1.out (by omega)
      have hxb := hxrow.lt (by omega)
      have hxc : wr.cell? ⟨xb, xo + k, none⟩ = some (u (xs[k]?.getD 0)) := (hBe.out.cell (p := ⟨xb, xo + k, none⟩) hxb).trans (hxrow k hlt)
      have hlc : wr.cell? ⟨w.heap.size, k, none⟩ = some (u (L[k]?.getD 0)) := hB.out.cell k (by rw [hU.out.len]; omega)
      have hz1 : wr.frozen? ⟨w.heap.size, k, none⟩ = false := hB.out.frozen _
      have hz2 : wr.frozen? ⟨w.heap.size, k + 1, none⟩ = false := hB.out.frozen _
      have hlc2 : wr.cell? ⟨w.heap.size, k + 1, none⟩ = some (u (L[k + 1]?.getD 0)) := hB.out.cell (k + 1) (by rw [hU.out.len]; omega)
      have HU2 := Lib.hid (Up.step hU.out hlt HO1.out (by omega))
      have hnx := hU.out.next
      generalize hxg : xs[k]?.getD 0 = x at *
      generalize hcg : L[k]?.getD 0 = c at *
      generalize hcg2 : L[k + 1]?.getD 0 = c2 at *
      have e1 := wrap_shl x s
      have e2 := or_low (x := x) (by omega) hnx
      have e3 := div_pow x (64 - s)
      generalize x * 2 ^ s % B = lo at *
      generalize x / 2 ^ (64 - s) = h at *
      clear hnx hxg hcg hcg2 hxrow
      have hne : ¬ xb = w.heap.size := by omega
      have hne' : ¬ w.heap.size = xb := by omega
      go_wp2_with fail
      go_region
      go_wp2_with fail
      go_roundw
      case rel =>
        rw [← Int.natCast_add]
        refine ⟨k + 1, _, by omega, by go_num, ?_, HU2.out, ?_⟩
        · exact ((hB.out.set k (lo + c) (by rw [hU.out.len]; omega)).set (k + 1) h (by rw [List.length_set, hU.out.len]; omega)).drew
        · exact hBe.out.trans ((((Only.refl w.heap.size wr).set k _).set (k + 1) _).drew.below (Nat.le_refl _))
      case measure => simp [intOf]; omega
    · obtain rfl : k = xs.length := by omega
      go_wp2_with fail
      go_ret
      refine ⟨w.heap.size, L, rfl, Nat.le_refl _, hB.out, hU.out.len, hU.out.ok, ?_, hBe.out⟩
      have := hU.out.sum
      rw [List.take_length] at this
      exact this

end Go.Proofs.YtojploidgagmgaaGreatDoor

/- shiftDown: limbs with all bits lower. -/
namespace Go.Proofs.YtojploidgagmgaaGreatDoor
open Go Go.RowKit Go.Proofs Lim

theorem or_high {x s c : Nat} (hs : s ≤ 64) (hc : c < 2 ^ (64 - s)) : bits .or .u64 (c : Int) ((x * 2 ^ (64 - s) % B : Nat) : Int) = ((x % 2 ^ s * 2 ^ (64 - s) + c : Nat) : Int) := by
  have h := or_low (x := x) (s := 64 - s) (by omega) hc
  have e := low_part (x := x) (s := 64 - s) (by omega)
  rw [show 64 - (64 - s) = s from by omega] at e
  rw [h, e]

/-- How far a shift has come. -/
structure Down (xs L : List Nat) (s k : Nat) : Prop where
  len : L.length = xs.length
  ok : Ok L
  last : ∀ j, k = j + 1 → L[j]?.getD 0 < 2 ^ (64 - s)
  zeros : ∀ j, k ≤ j → L[j]?.getD 0 = 0
  sum : val L = val (xs.take k) / 2 ^ s

theorem Down.start (xs : List Nat) (s : Nat) : Down xs (List.replicate xs.length 0) s 0 :=
  ⟨by simp, Ok.replicate _, fun j h => by omega, fun j _ => by rw [List.getElem?_replicate]; split <;> rfl, by rw [val_replicate]; simp [val]⟩

theorem Down.first {xs L : List Nat} {s : Nat} (h : Down xs L s 0) (hk : 0 < xs.length) (okx : Ok xs) (hs : s ≤ 64) : Down xs (L.set 0 (xs[0]?.getD 0 / 2 ^ s)) s 1 := by
  have hx := okx.get 0
  have hl : 0 < L.length := by rw [h.len]; exact hk
  have e1 : 2 ^ s * 2 ^ (64 - s) = B := by rw [← Nat.pow_add, B_eq]; congr 1; omega
  refine ⟨by simp [h.len], h.ok.set _ _ (Nat.lt_of_le_of_lt (Nat.div_le_self _ _) hx), ?_, ?_, ?_⟩
  · intro j hj
    obtain rfl : j = 0 := by omega
    rw [List.getElem?_set_self hl]
    exact Nat.div_lt_of_lt_mul (by rw [e1]; exact hx)
  · intro j hj
    rw [List.getElem?_set_ne (by omega)]
    exact h.zeros j (by omega)
  · have v1 := val_set L 0 (xs[0]?.getD 0 / 2 ^ s) hl
    rw [h.zeros 0 (by omega), h.sum, Nat.pow_zero, Nat.one_mul] at v1
    have v2 := val_take_succ xs 0 hk
    rw [v2]
    simp only [List.take_zero, val, Nat.zero_add, Nat.pow_zero, Nat.one_mul, Nat.add_zero, Nat.zero_div] at v1 ⊢
    exact v1

theorem Down.step {xs L : List Nat} {s k : Nat} (h : Down xs L s (k + 1)) (hk : k + 1 < xs.length) (okx : Ok xs) (hs : s ≤ 64) :
    Down xs ((L.set (k + 1) (xs[k + 1]?.getD 0 / 2 ^ s)).set k (xs[k + 1]?.getD 0 % 2 ^ s * 2 ^ (64 - s) + L[k]?.getD 0)) s (k + 2) := by
  have hx := okx.get (k + 1)
  have e1 : 2 ^ s * 2 ^ (64 - s) = B := by rw [← Nat.pow_add, B_eq]; congr 1; omega
  have hps : 0 < 2 ^ s := Nat.pow_pos (by omega)
  generalize hxe : xs[k + 1]?.getD 0 = x at *
  have hlast := h.last k rfl
  have h1 : x % 2 ^ s * 2 ^ (64 - s) + L[k]?.getD 0 < B := by
    have h1 : x % 2 ^ s < 2 ^ s := Nat.mod_lt _ hps
    have h2 : (x % 2 ^ s + 1) * 2 ^ (64 - s) ≤ 2 ^ s * 2 ^ (64 - s) := Nat.mul_le_mul_right _ h1
    rw [Nat.add_mul, Nat.one_mul, e1] at h2
    omega
  have h3 : x / 2 ^ s < B := Nat.lt_of_le_of_lt (Nat.div_le_self _ _) hx
  have hl1 : k + 1 < L.length := by rw [h.len]; exact hk
  have hl2 : k < (L.set (k + 1) (x / 2 ^ s)).length := by rw [List.length_set, h.len]; omega
  refine ⟨by simp [h.len], (h.ok.set _ _ h3).set _ _ h1, ?_, ?_, ?_⟩
  · intro j hj
    obtain rfl : j = k + 1 := by omega
    rw [List.getElem?_set_ne (by omega), List.getElem?_set_self hl1]
    exact Nat.div_lt_of_lt_mul (by rw [e1]; exact hx)
  · intro j hj
    rw [List.getElem?_set_ne (by omega), List.getElem?_set_ne (by omega)]
    exact h.zeros j (by omega)
  · have v1 := val_set L (k + 1) (x / 2 ^ s) hl1
    have v2 := val_set (L.set (k + 1) (x / 2 ^ s)) k (x % 2 ^ s * 2 ^ (64 - s) + L[k]?.getD 0) hl2
    rw [h.zeros (k + 1) (by omega), Nat.mul_zero, Nat.add_zero] at v1
    rw [List.getElem?_set_ne (by omega), v1, h.sum] at v2
    rw [show k + 2 = k + 1 + 1 from rfl, val_take_succ xs (k + 1) hk, hxe]
    have e2 : B ^ (k + 1) * x = (B ^ (k + 1) * (x / 2 ^ s) + B ^ k * (x % 2 ^ s * 2 ^ (64 - s))) * 2 ^ s := by
      have hd := Nat.div_add_mod x (2 ^ s)
      rw [Nat.pow_succ]
      generalize x / 2 ^ s = q at *
      generalize x % 2 ^ s = r at *
      rw [← hd, ← e1]
      generalize 2 ^ s = p at *
      generalize 2 ^ (64 - s) = p' at *
      generalize B ^ k = P at *
      grind
    rw [e2, Nat.add_mul_div_right _ _ hps]
    rw [Nat.mul_add] at v2
    omega

/-- shiftDown. -/
theorem shiftDown_any (v1 : Value) (xs : List Nat) (s : Nat) (w : World) (h1 : Sl w v1 xs) (hs : s ≤ 63) (hk : (xs.length : Int) ≤ 1073741825) :
    Calls Tryz.prog 163 #[v1, .int .i64 (s : Int)] w (UpPost w xs.length (val xs / 2 ^ s)) := by
  obtain ⟨⟨xa, xc, rfl, hc1, hc2, hr1⟩, ok1⟩ := h1
  obtain ⟨i0, hi, hz0, hz1, hz2⟩ := info_parts info_u64
  unfold maxLen at hc2
  have HR1 := Lib.hid hr1
  have HO1 := Lib.hid ok1
  clear hr1 ok1
  have hs0 : (0 : Int) ≤ (s : Int) := by omega
  have hs1 : (s : Int) ≤ 63 := by omega
  go_enter Tryz.func163, Tryz.ntmps163
  go_wp2_with (at_make; refine wpList_make_full _ rfl _ _ 116 rfl w.heap.size 23 i0 (.int .u64 0) 1 Tryz.underlying116 hi hz0 hz1 _ _ _ _ xs.length rfl rfl (by omega) (by omega) ?qb2 ?qb3 ?qb4 ?_)
  case qb2 => rw [hz2]; omega
  case qb3 => unfold maxLen; omega
  case qb4 => exact Nat.le_refl _
  intro w1 hown hgrow
  obtain ⟨hB1, hbel⟩ := made_blk hown hgrow
  clear hown hgrow hi hz0 hz1 hz2
  have HB1 := Lib.hid hB1
  have HBel := Lib.hid hbel
  clear hB1 hbel
  go_wp2_with fail
  go_loopw [12] (fun i wr => ∃ k L, k ≤ xs.length ∧ i = .int .i64 (k : Int) ∧ Hid (Blk wr w.heap.size L) ∧ Hid (Down xs L s k) ∧ Hid (Below w.heap.size w wr)) (fun i _ => xs.length - (intOf i).toNat)
  case atStart => exact ⟨0, _, Nat.zero_le _, rfl, HB1.out, Down.start xs s, HBel.out⟩
  case round =>
    obtain ⟨k, L, hk', rfl, hB, hU, hBe⟩ := hrel
    by_cases hlt : k < xs.length
    · obtain ⟨xb, xo, rfl, hxrow⟩ := HR1.out (by omega)
      have hxb := hxrow.lt (by omega)
      have hne : ¬ xb = w.heap.size := by omega
      have hne' : ¬ w.heap.size = xb := by omega
      have hxc : wr.cell? ⟨xb, xo + k, none⟩ = some (u (xs[k]?.getD 0)) := (hBe.out.cell (p := ⟨xb, xo + k, none⟩) hxb).trans (hxrow k hlt)
      have hz1 : wr.frozen? ⟨w.heap.size, k, none⟩ = false := hB.out.frozen _
      have hlc : wr.cell? ⟨w.heap.size, k, none⟩ = some (u (L[k]?.getD 0)) := hB.out.cell k (by rw [hU.out.len]; omega)
      rcases k with _ | k
      · have HU2 := Lib.hid (Down.first hU.out hlt HO1.out (by omega))
        generalize hxg : xs[0]?.getD 0 = x at *
        generalize hcg : L[0]?.getD 0 = c at *
        have e3 := div_pow x s
        generalize x / 2 ^ s = h at *
        rw [Nat.add_zero] at hxc
        clear hxg hcg hxrow
        go_wp2_with fail
        go_roundw
        case rel =>
          refine ⟨1, _, by omega, rfl, hB.out.set 0 h (by rw [hU.out.len]; omega), HU2.out, ?_⟩
          exact hBe.out.trans (((Only.refl w.heap.size wr).set 0 _).below (Nat.le_refl _))
        case measure => simp [intOf]; omega
      · have HU2 := Lib.hid (Down.step hU.out hlt HO1.out (by omega))
        have hnx := hU.out.last k rfl
        have hlc2 : wr.cell? ⟨w.heap.size, k, none⟩ = some (u (L[k]?.getD 0)) := hB.out.cell k (by rw [hU.out.len]; omega)
        have hz2 : wr.frozen? ⟨w.heap.size, k, none⟩ = false := hB.out.frozen _
        generalize hxg : xs[k + 1]?.getD 0 = x at *
        generalize hcg : L[k + 1]?.getD 0 = c at *
        generalize hcg2 : L[k]?.getD 0 = c2 at *
        have e1 := wrap_shl x (64 - s)
        have e2 := or_high (x := x) (by omega) hnx
        have e3 := div_pow x s
        generalize x * 2 ^ (64 - s) % B = lo at *
        generalize x / 2 ^ s = h at *
        generalize x % 2 ^ s * 2 ^ (64 - s) = lo2 at *
        clear hnx hxg hcg hcg2 hxrow
        go_wp2_with fail
        go_region
        go_wp2_with fail
        go_roundw
        case rel =>
          rw [← Int.natCast_add]
          refine ⟨k + 2, _, by omega, by go_num, ?_, HU2.out, ?_⟩
          · exact ((hB.out.set (k + 1) h (by rw [hU.out.len]; omega)).set k (lo2 + c2) (by rw [List.length_set, hU.out.len]; omega)).drew
          · exact hBe.out.trans ((((Only.refl w.heap.size wr).set (k + 1) _).set k _).drew.below (Nat.le_refl _))
        case measure => simp [intOf]; omega
    · obtain rfl : k = xs.length := by omega
      go_wp2_with fail
      go_ret
      refine ⟨w.heap.size, L, rfl, Nat.le_refl _, hB.out, hU.out.len, hU.out.ok, ?_, hBe.out⟩
      have := hU.out.sum
      rw [List.take_length] at this
      exact this

end Go.Proofs.YtojploidgagmgaaGreatDoor

/- divideByWord: limbs are divided in their place. -/
namespace Go.Proofs.YtojploidgagmgaaGreatDoor
open Go Go.RowKit Go.Proofs Lim

theorem div_lt_B {r l d : Nat} (hr : r < d) (hl : l < B) : (r * B + l) / d < B := by
  refine Nat.div_lt_of_lt_mul ?_
  have : (r + 1) * B ≤ d * B := Nat.mul_le_mul_right _ hr
  rw [Nat.add_mul] at this
  omega

/-- How far a division in its place has come: the limbs from j on, of n, are those of the quotient. -/
structure Divided (L L' : List Nat) (n j d r : Nat) : Prop where
  len : L'.length = L.length
  ok : Ok L'
  low : L'.take j = L.take j
  high : L'.drop n = L.drop n
  rest : r < d
  sum : val ((L.take n).drop j) = val ((L'.take n).drop j) * d + r

theorem Divided.start (L : List Nat) (n d : Nat) (h : Ok L) (hd : 0 < d) : Divided L L n n d 0 :=
  ⟨rfl, h, rfl, rfl, hd, by rw [List.drop_of_length_le (by simp; omega)]; simp [val]⟩

theorem drop_take_step (L : List Nat) (n j : Nat) (hj : j < n) (hn : n ≤ L.length) : (L.take n).drop j = L[j]?.getD 0 :: (L.take n).drop (j + 1) := by
  rw [List.drop_eq_getElem_cons (by simp; omega)]
  congr 1
  rw [List.getElem_take, List.getElem?_eq_getElem (by omega)]
  rfl

theorem Divided.step {L L' : List Nat} {n j d r : Nat} (h : Divided L L' n (j + 1) d r) (hj : j < n) (hn : n ≤ L.length) :
    Divided L (L'.set j (quo2 r (L'[j]?.getD 0) d)) n j d (rem2 r (L'[j]?.getD 0) d) := by
  unfold quo2 rem2
  have hl : L'[j]?.getD 0 = L[j]?.getD 0 := by
    have := congrArg (fun l => l[j]?) h.low
    simp only [List.getElem?_take, if_pos (show j < j + 1 from by omega)] at this
    rw [this]
  have hq := div_lt_B (d := d) h.rest (h.ok.get j)
  refine ⟨by rw [List.length_set, h.len], h.ok.set _ _ hq, ?_, ?_, Nat.mod_lt _ (by have := h.rest; omega), ?_⟩
  · rw [List.take_set, List.set_eq_of_length_le (by simp; omega)]
    have := congrArg (List.take j) h.low
    simpa [List.take_take, Nat.min_eq_left (show j ≤ j + 1 from by omega)] using this
  · rw [List.drop_set, if_pos hj, h.high]
  · rw [drop_take_step _ _ _ hj hn, drop_take_step _ _ _ hj (by rw [List.length_set, h.len]; exact hn)]
    have e1 : (L'.set j ((r * B + L'[j]?.getD 0) / d))[j]?.getD 0 = (r * B + L'[j]?.getD 0) / d := by
      rw [List.getElem?_set_self (by rw [h.len]; omega)]; rfl
    have e2 : ((L'.set j ((r * B + L'[j]?.getD 0) / d)).take n).drop (j + 1) = (L'.take n).drop (j + 1) := by
      rw [List.take_set, List.drop_set, if_pos (by omega)]
    rw [e1, e2, val, val, h.sum, ← hl]
    have := Nat.div_add_mod (r * B + L'[j]?.getD 0) d
    generalize L'[j]?.getD 0 = l at *
    generalize (r * B + l) / d = q at *
    generalize (r * B + l) % d = m at *
    generalize val (List.drop (j + 1) (List.take n L')) = v at *
    grind

/-- What divideByWord leaves. -/
def DivPost (w : World) (b n : Nat) (L : List Nat) (d : Nat) (e : Ending) (w' : World) : Prop :=
  ∃ r L', e = .returned (u r) ∧ Only b w w' ∧ Blk w' b L' ∧ Divided L L' n 0 d r

theorem divideByWord_any (b n : Nat) (cap : Nat) (L : List Nat) (d : Nat) (w : World) (hL : Blk w b L) (hn : n ≤ L.length) (hmax : (n : Int) ≤ 4611686018427387904)
    (hd : 0 < d) (hdB : d < B) (okL : Ok L) : Calls Tryz.prog 154 #[.slice (some ⟨b, 0, none⟩) n cap, u d] w (DivPost w b n L d) := by
  have HL := Lib.hid hL
  have HO := Lib.hid okL
  clear hL okL
  go_enter Tryz.func154, Tryz.ntmps154
  go_wp2_with fail
  go_loopw [5, 10] (fun r i wr => ∃ k c L', k ≤ n ∧ i = .int .i64 (k : Int) ∧ r = u c ∧ Hid (Divided L L' n (n - k) d c) ∧ Hid (Blk wr b L') ∧ Hid (Only b w wr)) (fun _ i _ => n - (intOf i).toNat)
  case atStart => exact ⟨0, 0, L, Nat.zero_le _, rfl, rfl, Divided.start L n d HO.out hd, HL.out, Only.refl _ _⟩
  case round =>
    obtain ⟨k, c, L', hk, rfl, rfl, hD, hB, hO⟩ := hrel
    by_cases hlt : k < n
    · obtain ⟨j, hj⟩ : ∃ j, j + 1 + k = n := ⟨n - 1 - k, by omega⟩
      have hlen : L'.length = L.length := hD.out.len
      have hc : wr.cell? ⟨b, j, none⟩ = some (u (L'[j]?.getD 0)) := hB.out.cell j (by omega)
      have hfz : wr.frozen? ⟨b, j, none⟩ = false := hB.out.frozen _
      have hix : ((n : Nat) : Int) - 1 - (k : Int) = (j : Int) := by omega
      have hjn : (j : Int) < (n : Int) := by omega
      have hcd : c < d := hD.out.rest
      have hl : L'[j]?.getD 0 < B := hD.out.ok.get j
      have hst : Divided L (L'.set j (quo2 c (L'[j]?.getD 0) d)) n j d (rem2 c (L'[j]?.getD 0) d) := by
        refine Divided.step ?_ (by omega) hn
        have := hD.out
        rw [show n - k = j + 1 from by omega] at this
        exact this
      have HS := Lib.hid hst
      have HJ := Lib.hid hj
      have HLn := Lib.hid hlen
      clear hst hD hj hlen
      generalize hlg : L'[j]?.getD 0 = l at *
      clear hlg
      go_wp2_with (go_at_call 177; refine (div64_all c l d hcd hl hdB _).mono ?_; rintro e w' ⟨rfl, q, rfl⟩)
      go_roundw
      case rel =>
        refine ⟨k + 1, _, _, by omega, by go_num, rfl, ?_, hB.out.set j _ (by rw [HLn.out]; omega), ((hO.out.trans ((Only.refl b wr).drewN q)).set j _)⟩
        rw [show n - (k + 1) = j from by have := HJ.out; omega]
        exact HS.out
      case measure => simp [intOf]; omega
    · obtain rfl : k = n := by omega
      go_wp2_with fail
      go_ret
      refine ⟨c, L', rfl, hO.out, hB.out, ?_⟩
      have := hD.out
      rw [Nat.sub_self] at this
      exact this

end Go.Proofs.YtojploidgagmgaaGreatDoor

/- natural.over: quotient and rest. -/
namespace Go.Proofs.YtojploidgagmgaaGreatDoor
open Go Go.RowKit Go.Proofs Lim

/-- What natural.over leaves. -/
def OverPost (w : World) (m n : Nat) (e : Ending) (w' : World) : Prop :=
  ∃ q r, e = .returned (.tuple #[q, r]) ∧ IsNat w' q (m / n) ∧ IsNat w' r (m % n) ∧ Below w.heap.size w w'

theorem IsNat.zero (w : World) : IsNat w (.slice none 0 0) 0 := ⟨[], Sl.nil w, fun h => absurd rfl h, rfl⟩

theorem over_less (v1 v2 : Value) (m n : Nat) (w : World) (h1 : IsNat w v1 m) (h2 : IsNat w v2 n) (hlt : m < n) :
    Calls Tryz.prog 143 #[v1, v2] w (OverPost w m n) := by
  have hc := compare_any v1 v2 m n w h1 h2
  rw [show cmpNat m n = -1 from if_pos hlt] at hc
  have HC := Lib.hid hc
  have H1 := Lib.hid h1
  clear hc h1 h2
  obtain ⟨xs, ⟨⟨xa, xc, rfl, _⟩, _⟩, _⟩ := H1.out
  go_enter Tryz.func143, Tryz.ntmps143
  go_wp2_with fail
  refine HC.out.mono ?_
  rintro e w' ⟨rfl, k, rfl⟩
  go_wp2_with fail
  go_ret2
  refine ⟨.slice none 0 0, .slice xa xs.length xc, rfl, ?_, ?_, bdrewN (Below.refl _ _)⟩
  · rw [Nat.div_eq_of_lt hlt]; exact IsNat.zero _
  · rw [Nat.mod_eq_of_lt hlt]; exact H1.out.below (B := w.heap.size) (bdrewN (Below.refl _ _)) (Nat.le_refl _)

theorem over_word (v1 v2 : Value) (m n k : Nat) (w : World) (h1 : IsNat w v1 m) (h2 : IsNat w v2 n) (hle : n ≤ m) (hn : 0 < n) (hnB : n < B) (hm : m < B ^ k) (hk : (k : Int) ≤ 1073741824) :
    Calls Tryz.prog 143 #[v1, v2] w (OverPost w m n) := by
  have hc := compare_any v1 v2 m n w h1 h2
  have hcmp : cmpNat m n = 0 ∨ cmpNat m n = 1 := by
    unfold cmpNat
    rw [if_neg (by omega)]
    split
    · exact .inr rfl
    · exact .inl rfl
  have hcb : (0 : Int) ≤ cmpNat m n := by rcases hcmp with h | h <;> rw [h] <;> omega
  generalize cmpNat m n = cm at *
  clear hcmp
  have HC := Lib.hid hc
  clear hc
  obtain ⟨xs, s1, t1, e1⟩ := h1
  obtain ⟨ys, s2, t2, e2⟩ := h2
  have lx := IsNat.len t1 e1 hm
  have ly : ys.length = 1 := by
    have l1 : ys.length ≤ 1 := IsNat.len t2 e2 (by rw [Nat.pow_one]; exact hnB)
    rcases ys with _ | ⟨y, ys⟩
    · simp [val] at e2; omega
    · simp at l1 ⊢; exact l1
  obtain ⟨y, rfl⟩ : ∃ y, ys = [y] := by
    rcases ys with _ | ⟨y, _ | ⟨z, ys⟩⟩
    · simp at ly
    · exact ⟨y, rfl⟩
    · simp at ly
  obtain rfl : y = n := by simpa [val] using e2
  have hx1 : 0 < xs.length := by
    rcases xs with _ | ⟨x, xs⟩
    · simp [val] at e1; omega
    · simp
  obtain ⟨⟨xa, xc, rfl, hc1, hc2, hr1⟩, ok1⟩ := s1
  obtain ⟨⟨ya, yc, rfl, hd1, hd2, hr2⟩, ok2⟩ := s2
  obtain ⟨xb, xo, rfl, rowx⟩ := hr1 hx1
  obtain ⟨yb, yo, rfl, rowy⟩ := hr2 (by simp)
  have cy : w.cell? ⟨yb, yo, none⟩ = some (u y) := rowy 0 (by simp)
  have hyb := rowy.lt (by simp)
  have rowx' : ∀ j, j < xs.length → w.cell? ((⟨xb, xo, none⟩ : Addr).add j) = some (u (xs[j]?.getD 0)) := fun j hj => by rw [Addr.add_lit]; exact rowx j hj
  have HR1 := Lib.hid rowx'
  have HO1 := Lib.hid ok1
  have HE1 := Lib.hid e1
  have HY := Lib.hid cy
  clear rowx rowx' rowy hr1 hr2 ok1 ok2 e1 e2 t1 t2 hm ly cy
  simp only [List.length_singleton] at *
  go_enter Tryz.func143, Tryz.ntmps143
  go_wp2_with fail
  refine HC.out.mono ?_
  rintro e w' ⟨rfl, q, rfl⟩
  go_wp2_with fail
  refine (clone_any _ xs xc (w.drewN q) (by omega) HR1.out).mono ?_
  rintro e w1 ⟨b, cap, rfl, hb, hB1, hcap1, hcap2, hbel⟩
  have cy1 : w1.cell? ⟨yb, yo, none⟩ = some (u y) := (hbel.cell (p := ⟨yb, yo, none⟩) hyb).trans HY.out
  have HB1 := Lib.hid hB1
  have HBel := Lib.hid hbel
  clear hB1 hbel
  go_wp2_with fail
  refine (divideByWord_any b xs.length cap xs y w1 HB1.out (Nat.le_refl _) (by omega) hn hnB HO1.out).mono ?_
  rintro e w2 ⟨r, L', rfl, hO2, hB2, hD⟩
  have hlen : L'.length = xs.length := hD.len
  have hsum := hD.sum
  rw [List.drop_zero, List.drop_zero, List.take_length, ← hlen, List.take_length, HE1.out] at hsum
  have hr := hD.rest
  have hq : val L' = m / y := by
    rw [hsum, Nat.mul_comm, Nat.mul_add_div hn, Nat.div_eq_of_lt hr, Nat.add_zero]
  have hr' : r = m % y := by
    rw [hsum, Nat.mul_comm, Nat.mul_add_mod, Nat.mod_eq_of_lt hr]
  have hs := Sl.of_blk hB2 hD.ok 0 xs.length cap (by omega) hcap1 hcap2
  rw [List.drop_zero, ← hlen, List.take_length, hlen] at hs
  have hb2 : Below w.heap.size w w2 := (bdrewN (Below.refl _ _)).trans (HBel.out.trans (hO2.below hb))
  have HS := Lib.hid hs
  have HB2 := Lib.hid hb2
  have HQ := Lib.hid hq
  have HR := Lib.hid hr'
  have HL := Lib.hid hlen
  clear hs hb2 hq hr' hsum hlen hB2 hO2 hD
  go_wp2_with fail
  refine (trim_any L' _ _ HS.out (by rw [HL.out]; omega)).mono ?_
  rintro e w4 ⟨v, rfl, hnat, rfl⟩
  rw [HQ.out] at hnat
  have HN := Lib.hid hnat
  clear hnat
  go_wp2_with fail
  refine (word_any r w2 (by omega)).mono ?_
  rintro e w5 ⟨vr, rfl, hnr, hb5⟩
  rw [HR.out] at hnr
  have HN2 := Lib.hid hnr
  have HB5 := Lib.hid hb5
  clear hnr hb5
  go_wp2_with fail
  go_ret2
  exact ⟨v, vr, rfl, HN.out.below HB5.out (Nat.le_refl _), HN2.out, HB2.out.trans (HB5.out.mono HB2.out.size)⟩

theorem over_long (v1 v2 : Value) (m n k : Nat) (w : World) (h1 : IsNat w v1 m) (h2 : IsNat w v2 n) (hle : n ≤ m) (hnB : B ≤ n) (hm : m < B ^ k) (hk : (k : Int) ≤ 1073741824) :
    Calls Tryz.prog 143 #[v1, v2] w (OverPost w m n) := by
  have hc := compare_any v1 v2 m n w h1 h2
  have hcmp : cmpNat m n = 0 ∨ cmpNat m n = 1 := by
    unfold cmpNat
    rw [if_neg (by omega)]
    split
    · exact .inr rfl
    · exact .inl rfl
  have hcb : (0 : Int) ≤ cmpNat m n := by rcases hcmp with h | h <;> rw [h] <;> omega
  generalize cmpNat m n = cm at *
  clear hcmp
  have HC := Lib.hid hc
  clear hc
  obtain ⟨xs, s1, t1, e1⟩ := h1
  obtain ⟨ys, s2, t2, e2⟩ := h2
  have lx := IsNat.len t1 e1 hm
  have lxy : ys.length ≤ xs.length := length_le_of_val_le t2 s1.ok (by omega)
  have ly : 2 ≤ ys.length := by
    rcases Nat.lt_or_ge ys.length 2 with h | h
    · exfalso
      have h3 := val_lt s2.ok
      have h4 : B ^ ys.length ≤ B ^ 1 := Nat.pow_le_pow_right B_pos (by omega)
      rw [Nat.pow_one] at h4
      omega
    · exact h
  obtain ⟨j, hj⟩ : ∃ j, ys.length = j + 1 := ⟨ys.length - 1, by omega⟩
  have htop : 0 < ys[j]?.getD 0 := by
    have hne : ys ≠ [] := by intro h; subst h; simp at ly
    have := t2 hne
    rw [List.getLast_eq_getElem hne] at this
    rw [List.getElem?_eq_getElem (by omega)]
    simp only [Option.getD_some]
    have e : ys.length - 1 = j := by omega
    simp only [e] at this
    omega
  have htB := s2.ok.get j
  obtain ⟨z1, z2, z3⟩ := lz_spec htop htB
  have S1 := Lib.hid s1
  have S2 := Lib.hid s2
  have HE1 := Lib.hid e1
  have HE2 := Lib.hid e2
  have HZ2 := Lib.hid z2
  have HZ3 := Lib.hid z3
  obtain ⟨⟨xa, xc, rfl, hc1, hc2, hr1⟩, ok1⟩ := s1
  obtain ⟨⟨ya, yc, rfl, hd1, hd2, hr2⟩, ok2⟩ := s2
  obtain ⟨yb, yo, rfl, rowy⟩ := hr2 (by omega)
  have cy : w.cell? ⟨yb, yo + j, none⟩ = some (u (ys[j]?.getD 0)) := rowy j (by omega)
  have HO1 := Lib.hid ok1
  have HO2 := Lib.hid ok2
  have hne1 : (((ys.length : Nat) : Int) == 1) = false := by rw [beq_eq_false_iff_ne]; omega
  have hlj : ((ys.length : Nat) : Int) - 1 = (j : Int) := by omega
  have hjl : (j : Int) < ((ys.length : Nat) : Int) := by omega
  have HJ := Lib.hid hj
  generalize htg : ys[j]?.getD 0 = top at *
  have HTG := Lib.hid htg
  unfold maxLen at hc2 hd2
  clear rowy hr1 hr2 ok1 ok2 e1 e2 t1 t2 hm z2 z3 hj htg
  go_enter Tryz.func143, Tryz.ntmps143
  go_wp2_with fail
  refine HC.out.mono ?_
  rintro e w' ⟨rfl, q, rfl⟩
  go_wp2_with fail
  refine (lz_any top htB _).mono ?_
  rintro e w' ⟨rfl, rfl⟩
  go_wp2_with fail
  refine (shiftUp_any _ ys (lz top) (w.drewN q) (S2.out.below (bdrewN (Below.refl w.heap.size w)) (Nat.le_refl _)) z1 (by omega)).mono ?_
  rintro e w1 ⟨b1, L1, rfl, hb1, hB1, hl1, hok1, hv1, hbel1⟩
  go_wp2_with fail
  have hsl1 := Sl.of_blk hB1 hok1 0 (ys.length + 1) (ys.length + 1) (by omega) (Nat.le_refl _) (by unfold maxLen; omega)
  rw [List.drop_zero, ← hl1, List.take_length, hl1] at hsl1
  have hbw1 : Below w.heap.size w w1 := (bdrewN (Below.refl _ _)).trans hbel1
  have HS1 := Lib.hid hsl1
  have HBW1 := Lib.hid hbw1
  have HL1 := Lib.hid hl1
  have HV1 := Lib.hid hv1
  clear hsl1 hbw1 hl1 hv1 hbel1 hB1 hok1 hb1
  refine (trim_any L1 _ _ HS1.out (by rw [HL1.out]; omega)).mono ?_
  rintro e w' ⟨vD, rfl, hD, rfl⟩
  rw [HV1.out] at hD
  obtain ⟨D, sD, tD, eD⟩ := hD
  obtain ⟨nl1, nl2, nl3⟩ := norm_len tD sD.ok eD S2.out.ok j HJ.out (by rw [HTG.out]; exact HZ2.out) (by rw [HTG.out]; exact HZ3.out)
  have hDy : D.length = ys.length := by rw [nl1, HJ.out]
  rw [← nl1] at nl3
  obtain ⟨⟨da, dc, rfl, hdc1, hdc2, hrD⟩, okD⟩ := sD
  obtain ⟨db, dof, rfl, rowD⟩ := hrD (by omega)
  have hdb := rowD.lt (by omega)
  have hD2 : 2 ≤ D.length := by omega
  have hDmax : (D.length : Int) ≤ 1073741824 := by omega
  unfold maxLen at hdc2
  have hDx : D.length ≤ xs.length := by omega
  have HDy := Lib.hid hDy
  have HeD := Lib.hid eD
  have HokD := Lib.hid okD
  have Hrow := Lib.hid rowD
  have Hn2 := Lib.hid nl2
  have Hn3 := Lib.hid nl3
  have Hnl1 := Lib.hid nl1
  clear hDy eD okD rowD nl2 nl3 nl1 tD hrD
  go_wp2_with fail
  refine (shiftUp_any _ xs (lz top) w1 (S1.out.below HBW1.out (Nat.le_refl _)) z1 (by omega)).mono ?_
  rintro e w2 ⟨b2, R, rfl, hb2, hB2, hl2, hok2, hv2, hbel2⟩
  have HB2 := Lib.hid hB2
  have HL2 := Lib.hid hl2
  have HOk2 := Lib.hid hok2
  have HV2 := Lib.hid hv2
  have HBel2 := Lib.hid hbel2
  have HRow2 := Lib.hid (Hrow.out.below hbel2 hdb)
  have hsz2 := hbel2.size
  have hb2lt := hB2.lt
  clear hB2 hl2 hok2 hv2 hbel2
  obtain ⟨lc, hlc⟩ : ∃ lc, lc + D.length = xs.length + 1 := ⟨xs.length + 1 - D.length, by omega⟩
  have HLc := Lib.hid hlc
  have hlcmax : (lc : Int) ≤ 1073741825 := by omega
  have hlc1 : 1 ≤ lc := by omega
  clear hlc
  obtain ⟨i0, hi, hz0, hz1, hz2⟩ := info_parts info_u64
  go_wp2_with (at_make; refine wpList_make_full _ rfl _ _ 116 rfl w2.heap.size 23 i0 (.int .u64 0) 1 Tryz.underlying116 hi hz0 hz1 _ _ _ _ lc rfl rfl (by have := HLc.out; omega) (by have := HLc.out; omega) ?qb2 ?qb3 ?qb4 ?_)
  case qb2 => rw [hz2]; omega
  case qb3 => unfold maxLen; omega
  case qb4 => exact Nat.le_refl _
  intro w3 hown hgrow
  obtain ⟨hB3, hbel3⟩ := made_blk hown hgrow
  clear hown hgrow hi hz0 hz1 hz2
  have HB3 := Lib.hid hB3
  have HB23 := Lib.hid (HB2.out.below hbel3 hb2lt)
  have HRow3 := Lib.hid (HRow2.out.below hbel3 (by omega))
  have HBel3 := Lib.hid (HBW1.out.trans (HBel2.out.mono HBW1.out.size |>.trans (hbel3.mono (Nat.le_trans HBW1.out.size hsz2))))
  clear hB3 hbel3
  have hwsz : w.heap.size ≤ w1.heap.size := HBW1.out.size
  have hvp : 0 < val D := by
    have := Hn3.out
    have h2 : 0 < B ^ D.length := Nat.pow_pos B_pos
    omega
  have hbne : b2 ≠ w2.heap.size := by omega
  have hdne2 : db ≠ b2 := by omega
  have hdne3 : db ≠ w2.heap.size := by omega
  go_wp2_with fail
  go_loopw [55] (fun i wr => ∃ k R QL, k ≤ lc ∧ i = .int .i64 (k : Int) ∧ Hid (Blk wr b2 R) ∧ Hid (Blk wr w2.heap.size QL) ∧ Hid (Long (val xs * 2 ^ lz top) (val D) R QL (xs.length + 1) lc (lc - k)) ∧ Hid (Row wr db dof D) ∧ Hid (Below w.heap.size w wr)) (fun i _ => lc - (intOf i).toNat)
  case atStart =>
    exact ⟨0, R, _, Nat.zero_le _, rfl, HB23.out, HB3.out, by rw [Nat.sub_zero]; exact Long.start HV2.out HOk2.out HL2.out HO1.out rfl z1 Hn3.out HLc.out, HRow3.out, HBel3.out⟩
  case round =>
    clear HB2 HL2 HOk2 HV2 HB3 HB23 HRow2 HRow3 HBel3 HBel2
    obtain ⟨k, R, QL, hk, rfl, hBR, hBQ, hLg, hRD, hBW⟩ := hrel
    by_cases hlt : k < lc
    · obtain ⟨a, ha⟩ : ∃ a, a + 1 + k = lc := ⟨lc - 1 - k, by omega⟩
      have hLg' : Long (val xs * 2 ^ lz top) (val D) R QL (xs.length + 1) lc (a + 1) := by
        have := hLg.out
        rw [show lc - k = a + 1 from by omega] at this
        exact this
      have hanr : a + (D.length + 1) ≤ xs.length + 1 := by have := HLc.out; omega
      have HNext := Lib.hid (nextLimb_any b2 a (xs.length + 1 - a) D.length (D.length + 1) db dof dc R D wr rfl hD2 rfl hBR.out (by rw [hLg'.lenR]; exact hanr) hRD.out hdne2 hLg'.okR HokD.out
        (by rw [Hnl1.out, Nat.add_sub_cancel]; exact Hn2.out) (hLg'.window_lt hanr) (by omega))
      have hix : ((lc : Nat) : Int) - 1 - (k : Int) = (a : Int) := by omega
      have hac : (a : Int) < (lc : Int) := by omega
      have ha0 : (0 : Int) ≤ (a : Int) := by omega
      obtain ⟨top2, htop2⟩ : ∃ top2, top2 = a + D.length + 1 := ⟨_, rfl⟩
      have HA := Lib.hid ha
      have HLg := Lib.hid hLg'
      have HAnr := Lib.hid hanr
      have Htop2 := Lib.hid htop2
      clear ha hLg' hLg hanr htop2
      have hq1 : (a : Int) + ((D.length : Nat) : Int) + 1 ≤ ((xs.length : Nat) : Int) + 1 := by have := HAnr.out; omega
      have hq2 : (a : Int) ≤ (a : Int) + ((D.length : Nat) : Int) + 1 := by omega
      have hanx : ¬ xs.length + 1 = a := by have := HAnr.out; omega
      go_wp2_with fail
      rw [show a + D.length + 1 - a = D.length + 1 from by omega]
      refine HNext.out.mono ?_
      rintro e w5 ⟨R', rfl, hO5, hB5, hT5⟩
      have hBQ5 : Blk w5 w2.heap.size QL := hBQ.out.only hO5 (by omega)
      have hfz : w5.frozen? ⟨w2.heap.size, a, none⟩ = false := hBQ5.frozen _
      have hcl : w5.cell? ⟨w2.heap.size, a, none⟩ = some (u (QL[a]?.getD 0)) := hBQ5.cell a (by rw [HLg.out.lenQ]; omega)
      have hqB : val ((R.drop a).take (D.length + 1)) / val D < B := Nat.div_lt_of_lt_mul (HLg.out.window_lt HAnr.out)
      have hstep := HLg.out.step HAnr.out (by have := HA.out; omega) hvp (val_lt HokD.out) hT5 hqB
      have hBS := hBQ5.set a (val ((R.drop a).take (D.length + 1)) / val D) (by rw [HLg.out.lenQ]; have := HA.out; omega)
      have hR5 : Row w5 db dof D := hO5.row hdne2 hRD.out
      have hB5' : Blk (w5.setCell ⟨w2.heap.size, a, none⟩ (u (val ((R.drop a).take (D.length + 1)) / val D))) b2 R' := hB5.only ((Only.refl w2.heap.size w5).set a _) hbne
      have hR5' : Row (w5.setCell ⟨w2.heap.size, a, none⟩ (u (val ((R.drop a).take (D.length + 1)) / val D))) db dof D := ((Only.refl w2.heap.size w5).set a _).row hdne3 hR5
      have hBW5 : Below w.heap.size w (w5.setCell ⟨w2.heap.size, a, none⟩ (u (val ((R.drop a).take (D.length + 1)) / val D))) :=
        (hBW.out.trans (hO5.below (by omega))).trans (((Only.refl w2.heap.size w5).set a _).below (by omega))
      generalize val ((R.drop a).take (D.length + 1)) / val D = qd at *
      generalize QL[a]?.getD 0 = ql at *
      have G1 := Lib.hid hstep
      have G2 := Lib.hid hBS
      have G3 := Lib.hid hB5'
      have G4 := Lib.hid hR5'
      have G5 := Lib.hid hBW5
      clear hstep hBS hB5' hR5' hBW5 hBQ5 hR5 hO5 hB5 hT5 hqB
      go_wp2_with fail
      go_roundw
      case rel =>
        refine ⟨k + 1, R', _, by omega, by go_num, G3.out, G2.out, ?_, G4.out, G5.out⟩
        rw [show lc - (k + 1) = a from by have := HA.out; omega]
        exact G1.out
      case measure => simp [intOf]; omega
    · obtain rfl : k = lc := by omega
      have hL := hLg.out
      rw [Nat.sub_self, HeD.out] at hL
      obtain ⟨hqv, hrv⟩ := hL.done rfl (Nat.pow_pos (by omega)) (by rw [HE2.out]; have := B_pos; omega)
      rw [HE1.out, HE2.out] at hqv hrv
      have hsQ := Sl.of_blk hBQ.out hL.okQ 0 k k (by rw [hL.lenQ]; omega) (Nat.le_refl _) (by unfold maxLen; omega)
      have hQl : (QL.drop 0).take k = QL := by rw [List.drop_zero, List.take_of_length_le (by rw [hL.lenQ]; omega)]
      rw [hQl] at hsQ
      have hsR := Sl.of_blk hBR.out hL.okR 0 (xs.length + 1) (xs.length + 1) (by rw [hL.lenR]; omega) (Nat.le_refl _) (by unfold maxLen; omega)
      have hRl : (R.drop 0).take (xs.length + 1) = R := by rw [List.drop_zero, List.take_of_length_le (by rw [hL.lenR]; omega)]
      rw [hRl] at hsR
      have hlQ := hL.lenQ
      have hlR := hL.lenR
      have GQ := Lib.hid hsQ
      have GR := Lib.hid hsR
      have Gq := Lib.hid hqv
      have Gr := Lib.hid hrv
      have GlQ := Lib.hid hlQ
      have GlR := Lib.hid hlR
      clear hL hqv hrv hsQ hsR hQl hRl hlQ hlR
      go_wp2_with fail
      refine (trim_any QL _ _ GQ.out (by rw [GlQ.out]; omega)).mono ?_
      rintro e w6 ⟨vq, rfl, hnq, rfl⟩
      rw [Gq.out] at hnq
      have HNQ := Lib.hid hnq
      clear hnq
      go_wp2_with fail
      have hcd := shiftDown_any (.slice (some ⟨b2, 0, none⟩) (xs.length + 1) (xs.length + 1)) R (lz top) wr GR.out z1 (by rw [GlR.out]; omega)
      rw [GlR.out, Gr.out] at hcd
      refine hcd.mono ?_
      rintro e w7 ⟨b7, L7, rfl, hb7, hB7, hl7, hok7, hv7, hbel7⟩
      have hs7 := Sl.of_blk hB7 hok7 0 (xs.length + 1) (xs.length + 1) (by omega) (Nat.le_refl _) (by unfold maxLen; omega)
      rw [List.drop_zero, ← hl7, List.take_length, hl7] at hs7
      have G7 := Lib.hid hs7
      have GV7 := Lib.hid hv7
      have GL7 := Lib.hid hl7
      have GB7 := Lib.hid hbel7
      clear hs7 hv7 hl7 hbel7 hB7 hok7 hcd
      go_wp2_with fail
      refine (trim_any L7 _ _ G7.out (by rw [GL7.out]; omega)).mono ?_
      rintro e w8 ⟨vr, rfl, hnr, rfl⟩
      rw [GV7.out] at hnr
      have HNR := Lib.hid hnr
      clear hnr
      go_wp2_with fail
      go_ret2
      exact ⟨vq, vr, rfl, HNQ.out.below GB7.out (Nat.le_refl _), HNR.out, hBW.out.trans (GB7.out.mono hBW.out.size)⟩

/-- natural.over, for every divisor but 0. -/
theorem over_any (v1 v2 : Value) (m n k : Nat) (w : World) (h1 : IsNat w v1 m) (h2 : IsNat w v2 n) (hn : 0 < n) (hm : m < B ^ k) (hk : (k : Int) ≤ 1073741824) :
    Calls Tryz.prog 143 #[v1, v2] w (OverPost w m n) := by
  rcases Nat.lt_or_ge m n with h | h
  · exact over_less v1 v2 m n w h1 h2 h
  · rcases Nat.lt_or_ge n B with hB | hB
    · exact over_word v1 v2 m n k w h1 h2 h hn hB hm hk
    · exact over_long v1 v2 m n k w h1 h2 h hB hm hk

end Go.Proofs.YtojploidgagmgaaGreatDoor

/- commonWord: the greatest common divisor of two limbs, by halving. -/
namespace Go.Proofs.YtojploidgagmgaaGreatDoor
open Go Go.RowKit Go.Proofs Lim

/-- The number of zeros at the end of a limb. -/
def tz (x : Nat) : Nat := Lib.ctz 64 x

theorem tz_spec {x : Nat} (h0 : 0 < x) (hx : x < B) : (∃ m, x = 2 ^ tz x * (2 * m + 1)) ∧ tz x < 64 := by
  obtain ⟨m, hm, hk⟩ := Lib.ctzFrom_spec 64 x h0 (by rw [← B_eq]; exact hx)
  have e : tz x = Lib.ctzFrom 64 x := by unfold tz Lib.ctz; rw [if_neg (by omega)]
  rw [e]
  exact ⟨⟨m, hm⟩, hk⟩

theorem pow_dvd_iff {x a m k : Nat} (h : x = 2 ^ a * (2 * m + 1)) : 2 ^ k ∣ x ↔ k ≤ a := by
  constructor
  · intro hd
    rcases Nat.lt_or_ge a k with hlt | hge
    · exfalso
      have h1 : 2 ^ (a + 1) ∣ 2 ^ k := Nat.pow_dvd_pow 2 hlt
      have h2 : 2 ^ (a + 1) ∣ x := Nat.dvd_trans h1 hd
      rw [h, Nat.pow_succ] at h2
      have h3 : 2 ∣ 2 * m + 1 := Nat.dvd_of_mul_dvd_mul_left (Nat.pow_pos (by omega)) h2
      omega
    · exact hge
  · intro hle
    rw [h]
    exact Nat.dvd_mul_right_of_dvd (Nat.pow_dvd_pow 2 hle) _

theorem pow_dvd_or (k x y : Nat) : 2 ^ k ∣ x ||| y ↔ 2 ^ k ∣ x ∧ 2 ^ k ∣ y := by
  rw [Nat.dvd_iff_mod_eq_zero, Nat.dvd_iff_mod_eq_zero, Nat.dvd_iff_mod_eq_zero, Nat.or_mod_two_pow, Nat.or_eq_zero_iff]

theorem or_lt {x y : Nat} (hx : x < B) (hy : y < B) : x ||| y < B := by
  rw [B_eq] at *
  exact Nat.or_lt_two_pow hx hy

theorem tz_or {x y : Nat} (h0 : 0 < x) (hx : x < B) (k0 : 0 < y) (hy : y < B) : tz (x ||| y) = min (tz x) (tz y) := by
  obtain ⟨⟨m, hm⟩, _⟩ := tz_spec h0 hx
  obtain ⟨⟨n, hn⟩, _⟩ := tz_spec k0 hy
  have hor0 : 0 < x ||| y := by
    rcases Nat.eq_zero_or_pos (x ||| y) with h | h
    · rw [Nat.or_eq_zero_iff] at h; omega
    · exact h
  obtain ⟨⟨p, hp⟩, _⟩ := tz_spec hor0 (or_lt hx hy)
  have h1 := (pow_dvd_or (tz (x ||| y)) x y).1 ((pow_dvd_iff hp).2 (Nat.le_refl _))
  have h2 := (pow_dvd_iff hm).1 h1.1
  have h3 := (pow_dvd_iff hn).1 h1.2
  have h4 := (pow_dvd_iff hp).1 ((pow_dvd_or (min (tz x) (tz y)) x y).2 ⟨(pow_dvd_iff hm).2 (Nat.min_le_left _ _), (pow_dvd_iff hn).2 (Nat.min_le_right _ _)⟩)
  omega

theorem gcd_odd (m b z : Nat) : Nat.gcd (2 * m + 1) (2 ^ b * z) = Nat.gcd (2 * m + 1) z := by
  have h : Nat.Coprime (2 ^ b) (2 * m + 1) := by
    refine Nat.Coprime.pow_left b ?_
    show Nat.gcd 2 (2 * m + 1) = 1
    rw [Nat.gcd_rec, Nat.mul_add_mod]
    rfl
  exact Nat.Coprime.gcd_mul_left_cancel_right z h

theorem gcd_split (a b m n : Nat) : Nat.gcd (2 ^ a * (2 * m + 1)) (2 ^ b * (2 * n + 1)) = Nat.gcd (2 * m + 1) (2 * n + 1) * 2 ^ min a b := by
  rcases Nat.le_total a b with h | h
  · rw [Nat.min_eq_left h, show 2 ^ b = 2 ^ a * 2 ^ (b - a) from by rw [← Nat.pow_add]; congr 1; omega, Nat.mul_assoc, Nat.gcd_mul_left, gcd_odd, Nat.mul_comm]
  · rw [Nat.min_eq_right h, show 2 ^ a = 2 ^ b * 2 ^ (a - b) from by rw [← Nat.pow_add]; congr 1; omega, Nat.mul_assoc, Nat.gcd_mul_left, Nat.gcd_comm, gcd_odd, Nat.gcd_comm, Nat.mul_comm]

/-- What the package-level variables hold that the library reads. -/
structure Gr (w : World) : Prop where
  size : 8 ≤ w.heap.size
  tab : TabAt 1 Lib.deBruijn64tab w
  maxLen : ∃ m, w.cell? ⟨0, 0, none⟩ = some (.int .i64 m)
  syn : ∃ tp p, w.cell? ⟨2, 0, none⟩ = some (.iface tp p)
  rng : ∃ tp p, w.cell? ⟨3, 0, none⟩ = some (.iface tp p)

theorem Gr.below {w w' : World} {K : Nat} (h : Gr w) (hb : Below K w w') (hK : 8 ≤ K) : Gr w' := by
  obtain ⟨h1, h2, ⟨m, h3⟩, ⟨t1, p1, h4⟩, ⟨t2, p2, h5⟩⟩ := h
  refine ⟨Nat.le_trans h1 hb.size, fun j hj => ?_, ⟨m, ?_⟩, ⟨t1, p1, ?_⟩, ⟨t2, p2, ?_⟩⟩
  · rw [hb.cell (p := ⟨_, j, none⟩) (Nat.lt_of_lt_of_le (show (1 : Nat) < 8 by decide) hK)]; exact h2 j hj
  · rw [hb.cell (p := ⟨_, 0, none⟩) (Nat.lt_of_lt_of_le (show (0 : Nat) < 8 by decide) hK)]; exact h3
  · rw [hb.cell (p := ⟨_, 0, none⟩) (Nat.lt_of_lt_of_le (show (2 : Nat) < 8 by decide) hK)]; exact h4
  · rw [hb.cell (p := ⟨_, 0, none⟩) (Nat.lt_of_lt_of_le (show (3 : Nat) < 8 by decide) hK)]; exact h5

theorem tz_any (x : Nat) (hx : x < B) (w : World) (hG : Gr w) : Calls Tryz.prog 155 #[u x] w fun e w' => e = .returned (.int .i64 (tz x : Nat)) ∧ w = w' :=
  (Tryz.bits_TrailingZeros64 x hx w (fun _ => hG.tab)).mono fun _ _ ⟨h, h'⟩ => ⟨h, h'.symm⟩

theorem or_u64 {x y : Nat} (hx : x < B) (hy : y < B) : bits .or .u64 (x : Int) (y : Int) = ((x ||| y : Nat) : Int) :=
  bits_or_u64_nat _ _ (by unfold B at hx; omega) (by unfold B at hy; omega)

/-- x without the zeros at its end. -/
def od (x : Nat) : Nat := x / 2 ^ tz x

theorem od_spec {x : Nat} (h0 : 0 < x) (hx : x < B) : ∃ m, od x = 2 * m + 1 ∧ x = 2 ^ tz x * (2 * m + 1) := by
  obtain ⟨⟨m, hm⟩, _⟩ := tz_spec h0 hx
  refine ⟨m, ?_, hm⟩
  unfold od
  have hp : 0 < 2 ^ tz x := Nat.pow_pos (by omega)
  conv => lhs; rw [hm]
  generalize hk : tz x = k at *
  have : tz (2 ^ k * (2 * m + 1)) = k := by rw [← hm, hk]
  rw [this, Nat.mul_div_cancel_left _ hp]

theorem od_pos {x : Nat} (h0 : 0 < x) (hx : x < B) : 0 < od x := by obtain ⟨m, h, _⟩ := od_spec h0 hx; omega
theorem od_le (x : Nat) : od x ≤ x := Nat.div_le_self _ _

theorem gcd_od {x y : Nat} (h0 : 0 < x) (hx : x < B) (k0 : 0 < y) (hy : y < B) : Nat.gcd x y = Nat.gcd (od x) y * 2 ^ tz (x ||| y) := by
  obtain ⟨m, hm, ex⟩ := od_spec h0 hx
  obtain ⟨n, hn, ey⟩ := od_spec k0 hy
  rw [tz_or h0 hx k0 hy, hm]
  generalize tz x = a at *
  generalize tz y = b at *
  conv => lhs; rw [ex, ey]
  rw [gcd_split]
  conv => rhs; rw [ey, gcd_odd]

/-- What the loop knows: x is odd, and the common divisors stay. -/
structure Odd (x y G : Nat) : Prop where
  odd : ∃ m, x = 2 * m + 1
  gcd : Nat.gcd x y = G
  lx : x < B
  ly : y < B

theorem Odd.step {x y G : Nat} (h : Odd x y G) (hy : 0 < y) : od y < B ∧ 0 < od y ∧ (x ≤ od y → Odd x (od y - x) G) ∧ (od y < x → Odd (od y) (x - od y) G) := by
  obtain ⟨⟨m, hm⟩, hg, lx, ly⟩ := h
  obtain ⟨n, hn, ey⟩ := od_spec hy ly
  have hle := od_le y
  have hgo : Nat.gcd x (od y) = G := by rw [← hg, hm, hn]; conv => rhs; rw [ey, gcd_odd]
  refine ⟨by omega, by omega, fun h => ⟨⟨m, hm⟩, ?_, lx, by omega⟩, fun h => ⟨⟨n, hn⟩, ?_, by omega, by omega⟩⟩
  · rw [Nat.gcd_sub_self_right h]; exact hgo
  · rw [Nat.gcd_sub_self_right (by omega), Nat.gcd_comm]; exact hgo

theorem gcd_lt {x y : Nat} (hx : x < B) (hy : y < B) : Nat.gcd x y < B := by
  rcases Nat.eq_zero_or_pos x with h | h
  · subst h; rw [Nat.gcd_zero_left]; exact hy
  · exact Nat.lt_of_le_of_lt (Nat.gcd_le_left y h) hx

theorem commonWord_zero (x y : Nat) (hx : x < B) (hy : y < B) (w : World) (h : x = 0 ∨ y = 0) :
    Calls Tryz.prog 135 #[u x, u y] w fun e w' => e = .returned (u (Nat.gcd x y)) ∧ w = w' := by
  have e0 := or_u64 hx hy
  have e1 : x ||| y = Nat.gcd x y := by
    rcases h with h | h
    · subst h; simp
    · subst h; simp
  rw [e1] at e0
  generalize hg : Nat.gcd x y = g at *
  clear e1 hg
  by_cases h0 : x = 0
  · have hb : (((x : Nat) : Int) == 0) = true := by subst h0; rfl
    clear h h0
    go_enter Tryz.func135, Tryz.ntmps135
    go_wp2_with fail
    go_ret
    exact ⟨rfl, rfl⟩
  · have hb : (((x : Nat) : Int) == 0) = false := by rw [beq_eq_false_iff_ne]; omega
    have hb2 : (((y : Nat) : Int) == 0) = true := by rcases h with h | h; exact absurd h h0; subst h; rfl
    clear h h0
    go_enter Tryz.func135, Tryz.ntmps135
    go_wp2_with fail
    go_ret
    exact ⟨rfl, rfl⟩

theorem commonWord_pos (x y : Nat) (n1 : ¬ x = 1) (n2 : ¬ y = 1) (h0 : 0 < x) (hx : x < B) (k0 : 0 < y) (hy : y < B) (w : World) (hG : Gr w) :
    Calls Tryz.prog 135 #[u x, u y] w fun e w' => e = .returned (u (Nat.gcd x y)) ∧ w = w' := by
  have hb1 : (((x : Nat) : Int) == 0) = false := by rw [beq_eq_false_iff_ne]; omega
  have hb2 : (((y : Nat) : Int) == 0) = false := by rw [beq_eq_false_iff_ne]; omega
  have hb3 : (((x : Nat) : Int) == 1) = false := by rw [beq_eq_false_iff_ne]; omega
  have hb4 : (((y : Nat) : Int) == 1) = false := by rw [beq_eq_false_iff_ne]; omega
  clear n1 n2
  have e0 := or_u64 hx hy
  have hor := or_lt hx hy
  have hgo := gcd_od h0 hx k0 hy
  have hod := od_spec h0 hx
  have htl : tz (x ||| y) < 64 := (tz_spec (by
    rcases Nat.eq_zero_or_pos (x ||| y) with h | h
    · rw [Nat.or_eq_zero_iff] at h; omega
    · exact h) hor).2
  have htx : tz x < 64 := (tz_spec h0 hx).2
  have ex := div_pow x (tz x)
  rw [show x / 2 ^ tz x = od x from rfl] at ex
  have hgl : Nat.gcd x y < B := gcd_lt hx hy
  obtain ⟨G, hGd⟩ : ∃ G, G = Nat.gcd (od x) y := ⟨_, rfl⟩
  have hO : Odd (od x) y G := ⟨let ⟨m, h, _⟩ := hod; ⟨m, h⟩, hGd.symm, Nat.lt_of_le_of_lt (od_le x) hx, hy⟩
  rw [← hGd] at hgo
  generalize x ||| y = z at *
  have htl0 : (0 : Int) ≤ ((tz z : Nat) : Int) := by omega
  have htx0 : (0 : Int) ≤ ((tz x : Nat) : Int) := by omega
  have HO := Lib.hid hO
  have HG := Lib.hid hG
  have Hgo := Lib.hid hgo
  have Hgl := Lib.hid hgl
  have Hy := Lib.hid hy
  have Hx := Lib.hid hx
  have Hor := Lib.hid hor
  clear hO hG hgo hod hGd hgl
  generalize hgg : Nat.gcd x y = gg at *
  clear hgg
  go_enter Tryz.func135, Tryz.ntmps135
  go_wp2_with fail
  refine (tz_any z Hor.out w HG.out).mono ?_
  rintro e w' ⟨rfl, rfl⟩
  go_wp2_with fail
  refine (tz_any x Hx.out w HG.out).mono ?_
  rintro e w' ⟨rfl, rfl⟩
  go_wp2_with fail
  go_loop [0, 1] (fun s0 s1 => ∃ X Y : Nat, s0 = u X ∧ s1 = u Y ∧ Hid (Odd X Y G)) (fun s0 s1 => (intOf s0 + intOf s1).toNat)
  case atStart => exact ⟨od x, y, rfl, rfl, HO.out⟩
  case round =>
    clear HO
    obtain ⟨X, Y, rfl, rfl, hXY⟩ := hrel
    by_cases hY : Y = 0
    · have hb : (((Y : Nat) : Int) != 0) = false := by subst hY; rfl
      have hXG : X = G := by have := hXY.out.gcd; subst hY; rw [Nat.gcd_zero_right] at this; exact this
      have e3 : IntKind.u64.wrap ((X : Int) * 2 ^ tz z) = ((gg : Nat) : Int) := by
        rw [wrap_shl, hXG, ← Hgo.out, Nat.mod_eq_of_lt Hgl.out]
      clear hY hXG
      go_wp2_with fail
      go_ret
      exact ⟨rfl, rfl⟩
    · have hb : (((Y : Nat) : Int) != 0) = true := by rw [bne_iff_ne]; omega
      obtain ⟨s1, s2, s3, s4⟩ := hXY.out.step (by omega)
      have hYB : Y < B := hXY.out.ly
      have hX1 : 0 < X := by obtain ⟨m, hm⟩ := hXY.out.odd; omega
      have htY : tz Y < 64 := (tz_spec (by omega) hYB).2
      have htY0 : (0 : Int) ≤ ((tz Y : Nat) : Int) := by omega
      have eY := div_pow Y (tz Y)
      rw [show Y / 2 ^ tz Y = od Y from rfl] at eY
      have hole := od_le Y
      generalize hoy : od Y = oy at *
      have S3 := Lib.hid s3
      have S4 := Lib.hid s4
      have hXB := hXY.out.lx
      clear s3 s4 hoy hY
      by_cases hgt : oy < X
      · have ew : IntKind.u64.wrap ((X : Int) - (oy : Int)) = ((X - oy : Nat) : Int) := wrap_sub hXB (by omega)
        obtain ⟨dd, hdd⟩ : ∃ dd, dd = X - oy := ⟨_, rfl⟩
        rw [← hdd] at ew
        have HDD := Lib.hid hdd
        clear hdd
        go_wp2_with (go_at_call 155; refine (tz_any Y hYB w HG.out).mono ?_; rintro e w' ⟨rfl, rfl⟩)
        go_round
        case rel => exact ⟨oy, dd, rfl, rfl, by rw [HDD.out]; exact S4.out hgt⟩
        case measure => simp [intOf]; have := HDD.out; omega
      · have ew : IntKind.u64.wrap ((oy : Int) - (X : Int)) = ((oy - X : Nat) : Int) := wrap_sub s1 (by omega)
        obtain ⟨dd, hdd⟩ : ∃ dd, dd = oy - X := ⟨_, rfl⟩
        rw [← hdd] at ew
        have HDD := Lib.hid hdd
        clear hdd
        go_wp2_with (go_at_call 155; refine (tz_any Y hYB w HG.out).mono ?_; rintro e w' ⟨rfl, rfl⟩)
        go_round
        case rel => exact ⟨X, dd, rfl, rfl, by rw [HDD.out]; exact S3.out (by omega)⟩
        case measure => simp [intOf]; have := HDD.out; omega

theorem commonWord_one (x y : Nat) (h0 : 0 < x) (k0 : 0 < y) (h : x = 1 ∨ y = 1) (w : World) :
    Calls Tryz.prog 135 #[u x, u y] w fun e w' => e = .returned (u (Nat.gcd x y)) ∧ w = w' := by
  have e1 : Nat.gcd x y = 1 := by
    rcases h with h | h
    · subst h; simp
    · subst h; simp
  rw [e1]
  have hb1 : (((x : Nat) : Int) == 0) = false := by rw [beq_eq_false_iff_ne]; omega
  have hb2 : (((y : Nat) : Int) == 0) = false := by rw [beq_eq_false_iff_ne]; omega
  clear e1
  by_cases h1 : x = 1
  · have hb3 : (((x : Nat) : Int) == 1) = true := by subst h1; rfl
    clear h h1
    go_enter Tryz.func135, Tryz.ntmps135
    go_wp2_with fail
    go_ret
    exact ⟨rfl, rfl⟩
  · have h2 : y = 1 := by omega
    have hb3 : (((x : Nat) : Int) == 1) = false := by rw [beq_eq_false_iff_ne]; omega
    have hb4 : (((y : Nat) : Int) == 1) = true := by subst h2; rfl
    clear h h1 h2
    go_enter Tryz.func135, Tryz.ntmps135
    go_wp2_with fail
    go_ret
    exact ⟨rfl, rfl⟩

/-- commonWord: that of 0 and 0 is 0. -/
theorem commonWord_any (x y : Nat) (hx : x < B) (hy : y < B) (w : World) (hG : Gr w) :
    Calls Tryz.prog 135 #[u x, u y] w fun e w' => e = .returned (u (Nat.gcd x y)) ∧ w = w' := by
  rcases Nat.eq_zero_or_pos x with h | h
  · exact commonWord_zero x y hx hy w (.inl h)
  · rcases Nat.eq_zero_or_pos y with h' | h'
    · exact commonWord_zero x y hx hy w (.inr h')
    · by_cases n1 : x = 1
      · exact commonWord_one x y h h' (.inl n1) w
      · by_cases n2 : y = 1
        · exact commonWord_one x y h h' (.inr n2) w
        · exact commonWord_pos x y n1 n2 h hx h' hy w hG

end Go.Proofs.YtojploidgagmgaaGreatDoor

/- reduce, common: the greatest common divisor of naturals. -/
namespace Go.Proofs.YtojploidgagmgaaGreatDoor
open Go Go.RowKit Go.Proofs Lim

/-- What reduce leaves: smaller numbers with the same common divisors. -/
def ReducePost (w : World) (m n : Nat) (e : Ending) (w' : World) : Prop :=
  ∃ p q X Y, e = .returned (.tuple #[p, q]) ∧ IsNat w' p X ∧ IsNat w' q Y ∧ Nat.gcd X Y = Nat.gcd m n ∧ Y < n ∧ Y ≤ X ∧ X ≤ m ∧ Below w.heap.size w w'

theorem sizes {m n X Y a b c d : Nat} (hm : m = d * X + b * Y) (hn : n = c * X + a * Y) (hYX : Y < X) (hc : 1 ≤ c) (hd : 1 ≤ d) : Y < n ∧ X ≤ m ∧ X ≤ n := by
  have h1 : 1 * X ≤ d * X := Nat.mul_le_mul_right _ hd
  have h2 : 1 * X ≤ c * X := Nat.mul_le_mul_right _ hc
  omega

/-- The steps on the leading bits, turned into steps on the numbers. -/
theorem euclid {m n A C X0 Y0 a b c d : Nat} {odd : Bool} (hL : Leads m n A C) (hS : Lim.Steps A C X0 Y0 a b c d odd) (hb : b ≠ 0 ∨ odd = true) :
    ∃ X Y, (if odd then X = b * n - a * m ∧ a * m ≤ b * n ∧ Y = c * m - d * n ∧ d * n ≤ c * m else X = a * m - b * n ∧ b * n ≤ a * m ∧ Y = d * n - c * m ∧ c * m ≤ d * n) ∧
      Nat.gcd X Y = Nat.gcd m n ∧ Y < n ∧ Y < X ∧ X ≤ m ∧ X ≤ n := by
  obtain ⟨K, x', y', hx', hy', rfl, rfl⟩ := hL.split
  cases odd
  · obtain ⟨X, Y, h1, h2, h3, h4, h5, h6, h7⟩ := hS.even (by simpa using hb) hx' hy'
    obtain ⟨s1, s2, s3⟩ := sizes h4 h5 h3 h6 h7
    refine ⟨X, Y, ?_, gcd_of_lin h4 h5 (.inl ⟨h1, h2⟩), s1, h3, s2, s3⟩
    simp only [Bool.false_eq_true, if_false]
    omega
  · obtain ⟨X, Y, h1, h2, h3, h4, h5, h6, h7⟩ := hS.odd hx' hy'
    obtain ⟨s1, s2, s3⟩ := sizes h4 h5 h3 h6 h7
    refine ⟨X, Y, ?_, gcd_of_lin h4 h5 (.inr ⟨h1, h2⟩), s1, h3, s2, s3⟩
    simp only [if_true]
    omega

theorem reduce_any (v1 v2 : Value) (m n k : Nat) (w : World) (h1 : IsNat w v1 m) (h2 : IsNat w v2 n) (hle : n ≤ m) (hnB : B ≤ n) (hm : m < B ^ k) (hk : (k : Int) ≤ 1073741824) :
    Calls Tryz.prog 151 #[v1, v2] w (ReducePost w m n) := by
  have HLd := Lib.hid (leading_any v1 v2 m n w h1 h2 hle (by omega))
  have H1 := Lib.hid h1
  have H2 := Lib.hid h2
  obtain ⟨xs, ⟨⟨xa, xc, rfl, _, _, _⟩, _⟩, _⟩ := h1
  obtain ⟨ys, ⟨⟨ya, yc, rfl, _, _, _⟩, _⟩, _⟩ := h2
  have hmB : B ≤ m := by omega
  go_enter Tryz.func151, Tryz.ntmps151
  go_wp2_with fail
  refine HLd.out.mono ?_
  rintro e w1 ⟨A, C, q, rfl, hL, rfl⟩
  have HL := Lib.hid hL
  clear hL
  go_wp2_with fail
  refine (foresee_any A C HL.out.la (Nat.lt_of_le_of_lt HL.out.le HL.out.la) HL.out.le _).mono ?_
  rintro e w2 ⟨a, b, c, d, X0, Y0, odd, rfl, hS, haB, hbB, hcB, hdB, hbel⟩
  have HS := Lib.hid hS
  have HBel := Lib.hid ((bdrewN (Below.refl w.heap.size w)).trans hbel)
  clear hS hbel
  by_cases hb0 : b = 0
  · have hbb : (((b : Nat) : Int) == 0) = true := by subst hb0; rfl
    clear hb0
    have hbw : Below w.heap.size w (w2.alloc (.cells #[u a, u b, u c, u d, .bool odd] 196)) := HBel.out.alloc HBel.out.size _
    have HBW := Lib.hid hbw
    clear hbw
    go_wp2_with fail
    refine (over_any _ _ m n k _ (H1.out.below HBW.out (Nat.le_refl _)) (H2.out.below HBW.out (Nat.le_refl _)) (by have := B_pos; omega) hm hk).mono ?_
    rintro e w4 ⟨vq, vr, rfl, _, hr, hb4⟩
    have HR := Lib.hid hr
    have HB4 := Lib.hid hb4
    clear hr hb4
    go_wp2_with fail
    go_ret2
    have hn0 : 0 < n := by have := B_pos; omega
    have hbz : Below w.heap.size w w4 := HBW.out.trans (HB4.out.mono HBW.out.size)
    refine ⟨_, vr, n, m % n, rfl, H2.out.below hbz (Nat.le_refl _), HR.out, ?_, Nat.mod_lt _ hn0, Nat.le_of_lt (Nat.mod_lt _ hn0), hle, hbz⟩
    rw [Nat.gcd_comm m n, Nat.gcd_rec n m, Nat.gcd_comm]
  · have hbb : (((b : Nat) : Int) == 0) = false := by rw [beq_eq_false_iff_ne]; omega
    obtain ⟨X, Y, hXY, hg, hYn, hYX, hXm, hXn⟩ := euclid HL.out HS.out (.inl hb0)
    have hnk : n < B ^ k := by omega
    have hbw : Below w.heap.size w (w2.alloc (.cells #[u a, u b, u c, u d, .bool odd] 196)) := HBel.out.alloc HBel.out.size _
    have hSA : StepsAt (w2.alloc (.cells #[u a, u b, u c, u d, .bool odd] 196)) w2.heap.size a b c d odd := heap_alloc_new w2 _
    have hwK : w.heap.size ≤ w2.heap.size := HBel.out.size
    obtain ⟨K, hK⟩ : ∃ K, K = w2.heap.size := ⟨_, rfl⟩
    have hKlt : K < (w2.alloc (.cells #[u a, u b, u c, u d, .bool odd] 196)).heap.size := by rw [hK]; simp
    have HXY := Lib.hid hXY
    have HG := Lib.hid hg
    have hm' := hm
    clear hXY hg hb0
    cases odd
    · obtain ⟨eX, leX, eY, leY⟩ : X = a * m - b * n ∧ b * n ≤ a * m ∧ Y = d * n - c * m ∧ c * m ≤ d * n := by simpa using HXY.out
      have D1 := Lib.hid (fun (W : World) (hW : Below w.heap.size w W) => difference_any _ _ a b m n k W (H1.out.below hW (Nat.le_refl _)) (H2.out.below hW (Nat.le_refl _)) haB hbB leX (.inl (by omega)) hm hnk hk)
      have D2 := Lib.hid (fun (W : World) (hW : Below w.heap.size w W) => difference_any _ _ d c n m k W (H2.out.below hW (Nat.le_refl _)) (H1.out.below hW (Nat.le_refl _)) hdB hcB leY (.inl (by omega)) hnk hm hk)
      rw [← eX] at D1
      rw [← eY] at D2
      have EX := Lib.hid eX
      have EY := Lib.hid eY
      clear eX eY leX leY hm hm' hnk
      obtain ⟨W, hW⟩ : ∃ W, W = w2.alloc (.cells #[u a, u b, u c, u d, .bool false] 196) := ⟨_, rfl⟩
      rw [← hW] at hbw hSA hKlt
      go_wp2_with fail
      rw [← hK, ← hW]
      rw [← hK] at hSA
      obtain ⟨⟨q0, q1, q2, q3, q4⟩, _⟩ := hSA.cells
      have HW := Lib.hid hW
      have HKl := Lib.hid hKlt
      have HBW := Lib.hid hbw
      have HKK := Lib.hid hK
      clear hW hSA hKlt hbw hK
      go_region_held3 (fun w' => w'.cell? ⟨K, 0, none⟩ = some (u a) ∧ w'.cell? ⟨K, 1, none⟩ = some (u b) ∧ w'.cell? ⟨K, 2, none⟩ = some (u c) ∧ w'.cell? ⟨K, 3, none⟩ = some (u d)) (go_keep) (first | ((with_reducible refine (D1.out W.drew HBW.out.drew).mono ?_); rintro e W1 ⟨pv, rfl, hp, hb1⟩; have s0 := (hb1.cell (p := ⟨K, 0, none⟩) HKl.out).trans q0; have s1 := (hb1.cell (p := ⟨K, 1, none⟩) HKl.out).trans q1; have s2 := (hb1.cell (p := ⟨K, 2, none⟩) HKl.out).trans q2; have s3 := (hb1.cell (p := ⟨K, 3, none⟩) HKl.out).trans q3; have HP := Lib.hid hp; have HB1 := Lib.hid hb1; clear hp hb1) | ((with_reducible refine (D2.out W1 (HBW.out.drew.trans (HB1.out.mono (HBW.out.drew.size)))).mono ?_); rintro e W2 ⟨qv, rfl, hq, hb2⟩; have t0 := (hb2.cell (p := ⟨K, 0, none⟩) (Nat.lt_of_lt_of_le HKl.out HB1.out.size)).trans s0; have t1 := (hb2.cell (p := ⟨K, 1, none⟩) (Nat.lt_of_lt_of_le HKl.out HB1.out.size)).trans s1; have t2 := (hb2.cell (p := ⟨K, 2, none⟩) (Nat.lt_of_lt_of_le HKl.out HB1.out.size)).trans s2; have t3 := (hb2.cell (p := ⟨K, 3, none⟩) (Nat.lt_of_lt_of_le HKl.out HB1.out.size)).trans s3; have HQ := Lib.hid hq; have HB2 := Lib.hid hb2; clear hq hb2))
      go_wp2_with fail
      go_ret2
      have hs1 : w.heap.size ≤ W1.heap.size := Nat.le_trans HBW.out.drew.size HB1.out.size
      refine ⟨pv, qv, X, Y, rfl, HP.out.below HB2.out (Nat.le_refl _), HQ.out, HG.out, hYn, Nat.le_of_lt hYX, hXm, ?_⟩
      exact (HBW.out.drew.trans (HB1.out.mono HBW.out.drew.size)).trans (HB2.out.mono hs1)
    · obtain ⟨eX, leX, eY, leY⟩ : X = b * n - a * m ∧ a * m ≤ b * n ∧ Y = c * m - d * n ∧ d * n ≤ c * m := by simpa using HXY.out
      have D1 := Lib.hid (fun (W : World) (hW : Below w.heap.size w W) => difference_any _ _ b a n m k W (H2.out.below hW (Nat.le_refl _)) (H1.out.below hW (Nat.le_refl _)) hbB haB leX (.inl (by omega)) hnk hm hk)
      have D2 := Lib.hid (fun (W : World) (hW : Below w.heap.size w W) => difference_any _ _ c d m n k W (H1.out.below hW (Nat.le_refl _)) (H2.out.below hW (Nat.le_refl _)) hcB hdB leY (.inr (by omega)) hm hnk hk)
      rw [← eX] at D1
      rw [← eY] at D2
      have EX := Lib.hid eX
      have EY := Lib.hid eY
      clear eX eY leX leY hm hm' hnk
      obtain ⟨W, hW⟩ : ∃ W, W = w2.alloc (.cells #[u a, u b, u c, u d, .bool true] 196) := ⟨_, rfl⟩
      rw [← hW] at hbw hSA hKlt
      go_wp2_with fail
      rw [← hK, ← hW]
      rw [← hK] at hSA
      obtain ⟨⟨q0, q1, q2, q3, q4⟩, _⟩ := hSA.cells
      have HW := Lib.hid hW
      have HKl := Lib.hid hKlt
      have HBW := Lib.hid hbw
      have HKK := Lib.hid hK
      clear hW hSA hKlt hbw hK
      go_region_held3 (fun w' => w'.cell? ⟨K, 0, none⟩ = some (u a) ∧ w'.cell? ⟨K, 1, none⟩ = some (u b) ∧ w'.cell? ⟨K, 2, none⟩ = some (u c) ∧ w'.cell? ⟨K, 3, none⟩ = some (u d)) (go_keep) (first | ((with_reducible refine (D1.out W.drew HBW.out.drew).mono ?_); rintro e W1 ⟨pv, rfl, hp, hb1⟩; have s0 := (hb1.cell (p := ⟨K, 0, none⟩) HKl.out).trans q0; have s1 := (hb1.cell (p := ⟨K, 1, none⟩) HKl.out).trans q1; have s2 := (hb1.cell (p := ⟨K, 2, none⟩) HKl.out).trans q2; have s3 := (hb1.cell (p := ⟨K, 3, none⟩) HKl.out).trans q3; have HP := Lib.hid hp; have HB1 := Lib.hid hb1; clear hp hb1) | ((with_reducible refine (D2.out W1 (HBW.out.drew.trans (HB1.out.mono (HBW.out.drew.size)))).mono ?_); rintro e W2 ⟨qv, rfl, hq, hb2⟩; have t0 := (hb2.cell (p := ⟨K, 0, none⟩) (Nat.lt_of_lt_of_le HKl.out HB1.out.size)).trans s0; have t1 := (hb2.cell (p := ⟨K, 1, none⟩) (Nat.lt_of_lt_of_le HKl.out HB1.out.size)).trans s1; have t2 := (hb2.cell (p := ⟨K, 2, none⟩) (Nat.lt_of_lt_of_le HKl.out HB1.out.size)).trans s2; have t3 := (hb2.cell (p := ⟨K, 3, none⟩) (Nat.lt_of_lt_of_le HKl.out HB1.out.size)).trans s3; have HQ := Lib.hid hq; have HB2 := Lib.hid hb2; clear hq hb2))
      go_wp2_with fail
      go_ret2
      have hs1 : w.heap.size ≤ W1.heap.size := Nat.le_trans HBW.out.drew.size HB1.out.size
      refine ⟨pv, qv, X, Y, rfl, HP.out.below HB2.out (Nat.le_refl _), HQ.out, HG.out, hYn, Nat.le_of_lt hYX, hXm, ?_⟩
      exact (HBW.out.drew.trans (HB1.out.mono HBW.out.drew.size)).trans (HB2.out.mono hs1)

end Go.Proofs.YtojploidgagmgaaGreatDoor

/- common: the greatest common divisor of two naturals. -/
namespace Go.Proofs.YtojploidgagmgaaGreatDoor
open Go Go.RowKit Go.Proofs Lim

theorem IsNat.unique {w : World} {v : Value} {m n : Nat} (h1 : IsNat w v m) (h2 : IsNat w v n) : m = n := by
  obtain ⟨xs, ⟨⟨xa, xc, rfl, _, _, hr1⟩, ok1⟩, _, rfl⟩ := h1
  obtain ⟨ys, ⟨⟨ya, yc, he, _, _, hr2⟩, ok2⟩, _, rfl⟩ := h2
  injection he with e1 e2 e3
  subst e1
  have : xs = ys := by
    refine List.ext_getElem e2 fun i h1 h2 => ?_
    obtain ⟨b, o, rfl, r1⟩ := hr1 (by omega)
    obtain ⟨b', o', e, r2⟩ := hr2 (by omega)
    injection e with e
    injection e with eb eo
    subst eb
    subst eo
    have a1 := r1 i h1
    have a2 := r2 i h2
    rw [a1] at a2
    rw [List.getElem?_eq_getElem h1, List.getElem?_eq_getElem h2] at a2
    injection a2 with a2
    injection a2 with _ a2
    simp only [Option.getD_some] at a2
    omega
  rw [this]

open Classical in
/-- The natural that a value stands for; a loop's measure. -/
noncomputable def natOf (w : World) (v : Value) : Nat := if h : ∃ n, IsNat w v n then h.choose else 0

theorem natOf_eq {w : World} {v : Value} {n : Nat} (h : IsNat w v n) : natOf w v = n := by
  unfold natOf
  have he : ∃ n, IsNat w v n := ⟨n, h⟩
  rw [dif_pos he]
  exact IsNat.unique he.choose_spec h

theorem IsNat.form {w : World} {v : Value} {n : Nat} (h : IsNat w v n) : ∃ ao l c, v = .slice ao l c ∧ (l : Int) ≤ 9223372036854775807 ∧ (l = 0 ↔ n = 0) ∧ (1 < l ↔ B ≤ n) := by
  obtain ⟨xs, ⟨⟨xa, xc, rfl, h1, h2, hr1⟩, ok1⟩, t1, rfl⟩ := h
  unfold maxLen at h2
  refine ⟨xa, xs.length, xc, rfl, by omega, ?_, ?_⟩
  · rw [val_eq_zero t1]; exact List.length_eq_zero_iff
  · constructor
    · intro hl
      have h3 := val_pos_of_trim t1 (by intro e; subst e; simp at hl)
      have h4 : B ^ 1 ≤ B ^ (xs.length - 1) := Nat.pow_le_pow_right B_pos (by omega)
      rw [Nat.pow_one] at h4
      omega
    · intro hB
      rcases Nat.lt_or_ge 1 xs.length with h | h
      · exact h
      · exfalso
        have h3 := val_lt ok1
        have h4 : B ^ xs.length ≤ B ^ 1 := Nat.pow_le_pow_right B_pos h
        rw [Nat.pow_one] at h4
        omega

/-- A natural of one limb. -/
theorem IsNat.limb {w : World} {v : Value} {n : Nat} (h : IsNat w v n) (h0 : 0 < n) (hB : n < B) : ∃ b o c, v = .slice (some ⟨b, o, none⟩) 1 c ∧ w.cell? ⟨b, o, none⟩ = some (u n) := by
  obtain ⟨xs, ⟨⟨xa, xc, rfl, h1, h2, hr1⟩, ok1⟩, t1, rfl⟩ := h
  have hl : xs.length ≤ 1 := IsNat.len t1 rfl (by rw [Nat.pow_one]; exact hB)
  rcases xs with _ | ⟨x, _ | ⟨y, xs⟩⟩
  · simp [val] at h0
  · obtain ⟨b, o, rfl, r⟩ := hr1 (by simp)
    refine ⟨b, o, xc, rfl, ?_⟩
    have := r 0 (by simp)
    simpa [val] using this
  · simp at hl

/-- What the loop of common knows. -/
def ComRel (w : World) (m G : Nat) (s0 s1 : Value) (wr : World) : Prop := ∃ M N, IsNat wr s0 M ∧ IsNat wr s1 N ∧ N ≤ M ∧ M ≤ m ∧ Nat.gcd M N = G ∧ Below w.heap.size w wr

theorem common_any (v1 v2 : Value) (m n k : Nat) (w : World) (h1 : IsNat w v1 m) (h2 : IsNat w v2 n) (hm : m < B ^ k) (hn : n < B ^ k) (hk : (k : Int) ≤ 1073741824) (hG : Gr w) :
    Calls Tryz.prog 127 #[v1, v2] w (NatNew w (Nat.gcd m n)) := by
  have HC := Lib.hid (compare_any v1 v2 m n w h1 h2)
  have H1 := Lib.hid h1
  have H2 := Lib.hid h2
  have HG := Lib.hid hG
  obtain ⟨xs, ⟨⟨xa, xc, rfl, _, _, _⟩, _⟩, _⟩ := h1
  obtain ⟨ys, ⟨⟨ya, yc, rfl, _, _, _⟩, _⟩, _⟩ := h2
  go_enter Tryz.func127, Tryz.ntmps127
  go_upto_if 10 with (go_at_call 142; refine HC.out.mono ?_; rintro e w1 ⟨rfl, q, rfl⟩)
  go_cut [0, 1] (fun s0 s1 wc => ComRel w (max m n) (Nat.gcd m n) s0 s1 wc)
  case first =>
    by_cases hlt : m < n
    · have hc : cmpNat m n = -1 := if_pos hlt
      have hcm : cmpNat m n < 0 := by rw [hc]; omega
      have HH := Lib.hid hlt
      clear hc hlt HC
      generalize cmpNat m n = cm at *
      go_wp2_with fail
      go_meet
      case rel =>
        have hlt := HH.out
        exact ⟨n, m, H2.out.below (bdrewN (Below.refl w.heap.size w)) (Nat.le_refl _), H1.out.below (bdrewN (Below.refl w.heap.size w)) (Nat.le_refl _), by omega, by omega, Nat.gcd_comm n m, bdrewN (Below.refl _ _)⟩
    · have hc : ¬ cmpNat m n < 0 := by
        unfold cmpNat
        rw [if_neg hlt]
        split <;> omega
      have hcm : 0 ≤ cmpNat m n := by omega
      have HH := Lib.hid hlt
      clear hc hlt HC
      generalize cmpNat m n = cm at *
      go_wp2_with fail
      go_meet
      case rel =>
        have hlt := HH.out
        exact ⟨m, n, H1.out.below (bdrewN (Below.refl w.heap.size w)) (Nat.le_refl _), H2.out.below (bdrewN (Below.refl w.heap.size w)) (Nat.le_refl _), by omega, by omega, rfl, bdrewN (Below.refl _ _)⟩
  case rest =>
    have hmax : max m n < B ^ k := by rcases Nat.le_total m n with h | h <;> omega
    have HM := Lib.hid hmax
    have HCut := Lib.hid hcut
    clear hcut hmax hm hn HC H1 H2
    generalize Nat.gcd m n = G at *
    generalize max m n = mm at *
    go_wp2_with fail
    go_loopw [0, 1] (fun s0 s1 wr => Hid (ComRel w mm G s0 s1 wr)) (fun _ s1 wr => natOf wr s1)
    case atStart => exact HCut.out
    case round =>
      obtain ⟨M, N, i1, i2, hNM, hMm, hg, hbe⟩ := hrel.out
      obtain ⟨ao, l, c, rfl, hl1, hl2, hl3⟩ := i2.form
      obtain ⟨bo, l', c', rfl, hl1', _, _⟩ := i1.form
      have I1 := Lib.hid i1
      have I2 := Lib.hid i2
      have HBe := Lib.hid hbe
      have HGG := Lib.hid hg
      have hMk : M < B ^ k := by have := HM.out; omega
      have HMk := Lib.hid hMk
      have HL2 := Lib.hid hl2
      have HL3 := Lib.hid hl3
      clear i1 i2 hbe hg hMk hl2 hl3 hrel HCut
      by_cases h1 : 1 < l
      · have h1i : (1 : Int) < (l : Int) := by omega
        go_wp2_with fail
        refine (reduce_any _ _ M N k wr I1.out I2.out hNM (HL3.out.1 h1) HMk.out hk).mono ?_
        rintro e w1 ⟨p, q, X, Y, rfl, hp, hq, hXY, hYN, hYX, hXM, hb⟩
        have HP := Lib.hid hp
        have HQ := Lib.hid hq
        have HXY := Lib.hid hXY
        have HB1 := Lib.hid hb
        clear hp hq hXY hb
        go_wp2_with fail
        go_roundw
        case rel => exact ⟨X, Y, HP.out, HQ.out, hYX, by omega, by rw [HXY.out]; exact HGG.out, HBe.out.trans (HB1.out.mono HBe.out.size)⟩
        case measure => rw [natOf_eq HQ.out, natOf_eq I2.out]; exact hYN
      · by_cases h0 : l = 0
        · have hN0 : N = 0 := HL2.out.1 h0
          have h0b : (((l : Nat) : Int) == 0) = true := by subst h0; rfl
          have h0i : ¬ (1 : Int) < (l : Int) := by omega
          have HN0 := Lib.hid hN0
          clear h1 h0 hN0
          go_wp2_with fail
          go_ret
          refine ⟨_, rfl, ?_, HBe.out⟩
          have := HGG.out
          rw [HN0.out, Nat.gcd_zero_right] at this
          rw [← this]
          exact I1.out
        · have hNB : N < B := by
            rcases Nat.lt_or_ge N B with h | h
            · exact h
            · exact absurd (HL3.out.2 h) h1
          have hN0 : 0 < N := by
            rcases Nat.eq_zero_or_pos N with h | h
            · exact absurd (HL2.out.2 h) h0
            · exact h
          have h0b : (((l : Nat) : Int) == 0) = false := by rw [beq_eq_false_iff_ne]; omega
          have h0i : ¬ (1 : Int) < (l : Int) := by omega
          clear h1 h0
          by_cases hN1 : N = 1
          · have HI := Lib.hid (isOne_yes _ N wr I2.out hN1)
            have HG1 := Lib.hid hN1
            clear hN1
            go_wp2_with fail
            refine HI.out.mono ?_
            rintro e w1 ⟨rfl, rfl⟩
            go_wp2_with fail
            go_ret
            refine ⟨_, rfl, ?_, HBe.out⟩
            have := HGG.out
            rw [HG1.out, Nat.gcd_one_right] at this
            rw [← this, ← HG1.out]
            exact I2.out
          · have HI := Lib.hid (isOne_no _ N wr I2.out hN1)
            clear hN1
            go_wp2_with fail
            refine HI.out.mono ?_
            rintro e w1 ⟨rfl, rfl⟩
            go_wp2_with fail
            refine (over_any _ _ M N k wr I1.out I2.out hN0 HMk.out hk).mono ?_
            rintro e w1 ⟨p, q, rfl, hp, hq, hb⟩
            obtain ⟨ro, rl, rc, rfl, hr1, hr2, hr3⟩ := hq.form
            have HQ := Lib.hid hq
            have HB1 := Lib.hid hb
            have HR2 := Lib.hid hr2
            have HR3 := Lib.hid hr3
            clear hp hq hb hr2 hr3
            by_cases hz : rl = 0
            · have hzb : (((rl : Nat) : Int) == 0) = true := by subst hz; rfl
              have HZ := Lib.hid (HR2.out.1 hz)
              clear hz
              go_wp2_with fail
              go_ret
              refine ⟨_, rfl, ?_, HBe.out.trans (HB1.out.mono HBe.out.size)⟩
              have := HGG.out
              rw [Nat.gcd_comm, Nat.gcd_rec, HZ.out, Nat.gcd_zero_left] at this
              rw [← this]
              exact I2.out.below HB1.out (Nat.le_refl _)
            · have hzb : (((rl : Nat) : Int) == 0) = false := by rw [beq_eq_false_iff_ne]; omega
              have hR0 : 0 < M % N := by
                rcases Nat.eq_zero_or_pos (M % N) with h | h
                · exact absurd (HR2.out.2 h) hz
                · exact h
              have hRB : M % N < B := Nat.lt_trans (Nat.mod_lt _ hN0) hNB
              obtain ⟨yb, yo, yc', hye, hcy⟩ := I2.out.limb hN0 hNB
              obtain ⟨zb, zo, zc', hze, hcz⟩ := HQ.out.limb hR0 hRB
              injection hye with e1 e2 e3
              injection hze with f1 f2 f3
              subst e1 e2 e3 f1 f2 f3
              have hcy1 : w1.cell? ⟨yb, yo, none⟩ = some (u N) := (HB1.out.cell (p := ⟨yb, yo, none⟩) (World.block_lt_of_cell? wr _ hcy)).trans hcy
              have hgc : Nat.gcd N (M % N) = G := by
                have := HGG.out
                rw [Nat.gcd_comm, Nat.gcd_rec, Nat.gcd_comm] at this
                exact this
              have hGr : Gr w1 := (HG.out.below HBe.out HG.out.size).below HB1.out (Nat.le_trans HG.out.size HBe.out.size)
              have HGr := Lib.hid hGr
              have HCW := Lib.hid (fun W hW => commonWord_any N (M % N) hNB hRB W hW)
              rw [hgc] at HCW
              have hGB : G < B := by rw [← hgc]; exact gcd_lt hNB hRB
              have HWd := Lib.hid (fun W => word_any G W hGB)
              generalize M % N = Rr at *
              clear hgc hGr hcy
              go_wp2_with fail
              go_region_held3 (fun w' => w'.cell? ⟨yb, yo, none⟩ = some (u N) ∧ w'.cell? ⟨zb, zo, none⟩ = some (u Rr)) (go_keep) (first | ((with_reducible refine (HCW.out w1.drew (HGr.out.below (Below.refl _ _).drew HGr.out.size)).mono ?_); rintro e W1 ⟨rfl, rfl⟩) | ((with_reducible refine (HWd.out _).mono ?_); rintro e W2 ⟨vr, rfl, hv, hb2⟩; have HV := Lib.hid hv; have HB2 := Lib.hid hb2; have g1 := (hb2.cell (p := ⟨yb, yo, none⟩) (World.block_lt_of_cell? w1 _ hcy1)).trans hcy1; have g2 := (hb2.cell (p := ⟨zb, zo, none⟩) (World.block_lt_of_cell? w1 _ hcz)).trans hcz; clear hv hb2))
              go_wp2_with fail
              go_ret
              refine ⟨vr, rfl, HV.out, ?_⟩
              have b1 : Below w.heap.size w w1 := HBe.out.trans (HB1.out.mono HBe.out.size)
              exact b1.drew.trans (HB2.out.mono b1.size)

end Go.Proofs.YtojploidgagmgaaGreatDoor

namespace Go.Proofs.YtojploidgagmgaaGreatDoor.Lim

/-- The decimal digits of n, the last one first; none of 0. -/
def digs (n : Nat) : List Nat := if n = 0 then [] else n % 10 :: digs (n / 10)
  termination_by n
  decreasing_by omega

theorem digs_zero : digs 0 = [] := by rw [digs]; simp
theorem digs_pos {n : Nat} (h : n ≠ 0) : digs n = n % 10 :: digs (n / 10) := by rw [digs, if_neg h]

/-- A digit as a byte. -/
def dbyte (d : Nat) : UInt8 := UInt8.ofNat (48 + d)

/-- The text of a natural. -/
def ntext (n : Nat) : List UInt8 := if n = 0 then [48] else ((digs n).map dbyte).reverse

/-- The value of bytes as decimal digits. -/
def dval (l : List UInt8) : Nat := l.foldl (fun a c => 10 * a + (c.toNat - 48)) 0

/-- Bytes that are decimal digits. -/
def isDig (c : UInt8) : Bool := 48 ≤ c.toNat && c.toNat ≤ 57

theorem dbyte_toNat {d : Nat} (h : d < 10) : (dbyte d).toNat = 48 + d := by
  unfold dbyte
  rw [UInt8.toNat_ofNat']
  omega

theorem digs_lt (n : Nat) : ∀ d ∈ digs n, d < 10 := by
  induction n using Nat.strongRecOn with
  | ind n ih =>
    by_cases h : n = 0
    · subst h; rw [digs_zero]; intro d hd; cases hd
    · rw [digs_pos h]
      intro d hd
      rcases List.mem_cons.1 hd with rfl | hd
      · omega
      · exact ih (n / 10) (by omega) d hd

theorem dval_snoc (l : List UInt8) (c : UInt8) : dval (l ++ [c]) = 10 * dval l + (c.toNat - 48) := by
  unfold dval; rw [List.foldl_append]; rfl

theorem dval_nil : dval [] = 0 := rfl

theorem dval_append (l m : List UInt8) : dval (l ++ m) = 10 ^ m.length * dval l + dval m := by
  have h : ∀ (m : List UInt8) (a : Nat), m.foldl (fun a c => 10 * a + (c.toNat - 48)) a = 10 ^ m.length * a + m.foldl (fun a c => 10 * a + (c.toNat - 48)) 0 := by
    intro m
    induction m with
    | nil => intro a; simp
    | cons c m ih =>
      intro a
      simp only [List.foldl_cons, List.length_cons]
      rw [ih, ih (10 * 0 + (c.toNat - 48)), Nat.pow_succ]
      grind
  unfold dval
  rw [List.foldl_append, h]

theorem dval_digs (n : Nat) : dval ((digs n).map dbyte).reverse = n := by
  induction n using Nat.strongRecOn with
  | ind n ih =>
    by_cases h : n = 0
    · subst h; rw [digs_zero]; rfl
    · rw [digs_pos h, List.map_cons, List.reverse_cons, dval_snoc, ih (n / 10) (by omega), dbyte_toNat (by omega)]
      omega

theorem dval_ntext (n : Nat) : dval (ntext n) = n := by
  unfold ntext
  split
  · rename_i h; subst h; rfl
  · exact dval_digs n

theorem ntext_inj {m n : Nat} (h : ntext m = ntext n) : m = n := by rw [← dval_ntext m, h, dval_ntext]

theorem isDig_dbyte {d : Nat} (h : d < 10) : isDig (dbyte d) = true := by
  unfold isDig
  rw [dbyte_toNat h]
  simp; omega

theorem ntext_dig (n : Nat) : ∀ c ∈ ntext n, isDig c = true := by
  unfold ntext
  split
  · intro c hc; simp at hc; subst hc; decide
  · intro c hc
    rw [List.mem_reverse, List.mem_map] at hc
    obtain ⟨d, hd, rfl⟩ := hc
    exact isDig_dbyte (digs_lt n d hd)

theorem ntext_ne (n : Nat) : ntext n ≠ [] := by
  unfold ntext
  split
  · simp
  · rename_i h; rw [digs_pos h]; simp

/-- So many digits there are at most. -/
theorem digs_len {n j : Nat} (h : n < 10 ^ j) : (digs n).length ≤ j := by
  induction j generalizing n with
  | zero => have : n = 0 := by simpa using h
            subst this; rw [digs_zero]; simp
  | succ j ih =>
    by_cases h0 : n = 0
    · subst h0; rw [digs_zero]; simp
    · rw [digs_pos h0, List.length_cons]
      have := ih (n := n / 10) (by rw [Nat.div_lt_iff_lt_mul (by omega)]; rw [Nat.pow_succ] at h; exact h)
      omega

theorem dval_lt (l : List UInt8) (h : ∀ c ∈ l, isDig c = true) : dval l < 10 ^ l.length := by
  induction l with
  | nil => decide
  | cons c l ih =>
    have h1 := ih (fun x hx => h x (by simp [hx]))
    have h2 := h c (by simp)
    unfold isDig at h2
    simp at h2
    have h3 := dval_append [c] l
    rw [show dval [c] = c.toNat - 48 from by simp [dval]] at h3
    rw [show c :: l = [c] ++ l from rfl, h3, List.length_append, Nat.pow_add, Nat.mul_comm (10 ^ [c].length)]
    have h4 : 10 ^ l.length * (c.toNat - 48 + 1) ≤ 10 ^ l.length * 10 ^ [c].length := Nat.mul_le_mul_left _ (by simp; omega)
    rw [Nat.mul_add] at h4
    omega

/-- The minus sign and the slash are no digits. -/
theorem minus_not_dig : isDig 45 = false := by decide
theorem slash_not_dig : isDig 47 = false := by decide

/-- The text of a number. -/
def qtext (r : Rat) : List UInt8 := (if r.num < 0 then [45] else []) ++ ntext r.num.natAbs ++ (if r.den = 1 then [] else 47 :: ntext r.den)

/-- What a text with this form stands for: whether there is a minus sign, the bytes before the first slash, and those behind it. -/
def minusOf (s : List UInt8) : Bool := s.head? == some 45
def restOf (s : List UInt8) : List UInt8 := if minusOf s then s.tail else s

theorem split_slash (a b : List UInt8) (ha : ∀ c ∈ a, isDig c = true) : (a ++ 47 :: b).takeWhile (· != 47) = a ∧ (a ++ 47 :: b).dropWhile (· != 47) = 47 :: b := by
  induction a with
  | nil => simp
  | cons c a ih =>
    have hc := ha c (by simp)
    have hne : (c != 47) = true := by
      rw [bne_iff_ne]; intro e; subst e; rw [slash_not_dig] at hc; cases hc
    have := ih (fun x hx => ha x (by simp [hx]))
    simp [hne, this]

theorem no_slash (a : List UInt8) (ha : ∀ c ∈ a, isDig c = true) : a.takeWhile (· != 47) = a ∧ a.dropWhile (· != 47) = [] := by
  induction a with
  | nil => simp
  | cons c a ih =>
    have hc := ha c (by simp)
    have hne : (c != 47) = true := by
      rw [bne_iff_ne]; intro e; subst e; rw [slash_not_dig] at hc; cases hc
    have := ih (fun x hx => ha x (by simp [hx]))
    simp [hne, this]

theorem qtext_minus (r : Rat) : minusOf (qtext r) = decide (r.num < 0) := by
  unfold minusOf qtext
  by_cases h : r.num < 0
  · simp [h]
  · have hne := ntext_ne r.num.natAbs
    have hd := ntext_dig r.num.natAbs
    rcases hn : ntext r.num.natAbs with _ | ⟨c, l⟩
    · exact absurd hn hne
    · rw [hn] at hd
      have hc := hd c (by simp)
      have : c ≠ 45 := by intro e; subst e; rw [minus_not_dig] at hc; cases hc
      simp [h, this]

theorem qtext_rest (r : Rat) : restOf (qtext r) = ntext r.num.natAbs ++ (if r.den = 1 then [] else 47 :: ntext r.den) := by
  unfold restOf
  rw [qtext_minus]
  by_cases h : r.num < 0
  · simp [qtext, h]
  · simp [qtext, h]

theorem qtext_inj {r s : Rat} (h : qtext r = qtext s) : r = s := by
  have h1 := congrArg minusOf h
  have h2 := congrArg restOf h
  rw [qtext_minus, qtext_minus] at h1
  rw [qtext_rest, qtext_rest] at h2
  have key : ∀ r : Rat, (ntext r.num.natAbs ++ (if r.den = 1 then [] else 47 :: ntext r.den)).takeWhile (· != 47) = ntext r.num.natAbs ∧
      (ntext r.num.natAbs ++ (if r.den = 1 then [] else 47 :: ntext r.den)).dropWhile (· != 47) = (if r.den = 1 then [] else 47 :: ntext r.den) := by
    intro r
    split
    · have := no_slash _ (ntext_dig r.num.natAbs)
      simpa using this
    · exact split_slash _ _ (ntext_dig _)
  have h3 := congrArg (List.takeWhile (· != 47)) h2
  have h4 := congrArg (List.dropWhile (· != 47)) h2
  rw [(key r).1, (key s).1] at h3
  rw [(key r).2, (key s).2] at h4
  have h5 := ntext_inj h3
  have hneg : (r.num < 0) ↔ (s.num < 0) := by simpa using h1
  have hnum : r.num = s.num := by
    by_cases hr : r.num < 0
    · have hs := hneg.1 hr; omega
    · have hs : ¬ s.num < 0 := fun e => hr (hneg.2 e); omega
  have hden : r.den = s.den := by
    by_cases a : r.den = 1 <;> by_cases b : s.den = 1
    · rw [a, b]
    · rw [if_pos a, if_neg b] at h4; cases h4
    · rw [if_neg a, if_pos b] at h4; cases h4
    · rw [if_neg a, if_neg b] at h4
      injection h4 with _ h4
      exact ntext_inj h4
  exact Rat.ext hnum hden


/-- Bytes that are a row of digits. -/
def okNat (l : List UInt8) : Bool := !l.isEmpty && l.all isDig

/-- The bytes before the slash, and those behind it; 1 if there is no slash. -/
def aboveOf (s : List UInt8) : List UInt8 := (restOf s).takeWhile (· != 47)
def belowOf (s : List UInt8) : List UInt8 := if ((restOf s).dropWhile (· != 47)).isEmpty then [49] else ((restOf s).dropWhile (· != 47)).tail

/-- A natural with a sign. -/
def signed (neg : Bool) (n : Nat) : Rat := if neg then -(n : Rat) else (n : Rat)

/-- The number that a text stands for, if it has the form of one: it need not be this number's text. -/
def parsed (s : List UInt8) : Option Rat :=
  if okNat (aboveOf s) && okNat (belowOf s) && dval (belowOf s) != 0 then some (signed (minusOf s) (dval (aboveOf s)) * ((dval (belowOf s) : Nat) : Rat)⁻¹) else none

/-- What Read returns: the number and the error. -/
def readQ (s : List UInt8) : Rat × Int :=
  if 4000 < s.length then (0, 5) else
  match parsed s with
  | none => (0, 4)
  | some r => if qtext r = s then (r, 0) else (0, 4)

theorem okNat_ntext (n : Nat) : okNat (ntext n) = true := by
  unfold okNat
  have h1 := ntext_ne n
  have h2 := ntext_dig n
  rw [Bool.and_eq_true, List.all_eq_true]
  exact ⟨by cases h : ntext n <;> simp_all, h2⟩

theorem signed_num (r : Rat) : signed (decide (r.num < 0)) r.num.natAbs = (r.num : Rat) := by
  unfold signed
  by_cases h : r.num < 0
  · rw [if_pos (by simpa using h)]
    rw [show ((r.num.natAbs : Nat) : Rat) = ((r.num.natAbs : Int) : Rat) from rfl, ← Rat.intCast_neg]
    congr 1
    omega
  · rw [if_neg (by simpa using h)]
    rw [show ((r.num.natAbs : Nat) : Rat) = ((r.num.natAbs : Int) : Rat) from rfl]
    congr 1
    omega

theorem num_den (r : Rat) : (r.num : Rat) * ((r.den : Nat) : Rat)⁻¹ = r := by
  rw [← Rat.div_def, ← Rat.mkRat_eq_div, Rat.mkRat_self]

theorem parsed_qtext (r : Rat) : parsed (qtext r) = some r := by
  have ha : aboveOf (qtext r) = ntext r.num.natAbs := by
    unfold aboveOf
    rw [qtext_rest]
    split
    · simpa using (no_slash _ (ntext_dig r.num.natAbs)).1
    · exact (split_slash _ _ (ntext_dig _)).1
  have hb : belowOf (qtext r) = ntext r.den := by
    unfold belowOf
    rw [qtext_rest]
    by_cases h : r.den = 1
    · rw [if_pos h, List.append_nil, (no_slash _ (ntext_dig r.num.natAbs)).2, h]
      simp [ntext, digs_pos, digs_zero, dbyte]
    · rw [if_neg h, (split_slash _ _ (ntext_dig r.num.natAbs)).2]
      simp
  unfold parsed
  rw [ha, hb, okNat_ntext, okNat_ntext, dval_ntext, dval_ntext, qtext_minus, signed_num, num_den]
  have := r.den_nz
  simp [this]

/-- The number of a text is found. -/
theorem readQ_qtext (r : Rat) (h : (qtext r).length ≤ 4000) : readQ (qtext r) = (r, 0) := by
  unfold readQ
  rw [if_neg (by omega), parsed_qtext]
  simp

/-- What Read returns without an error has the text. -/
theorem readQ_ok {s : List UInt8} (h : (readQ s).2 = 0) : qtext (readQ s).1 = s := by
  unfold readQ at *
  by_cases hl : 4000 < s.length
  · rw [if_pos hl] at h; cases h
  · rw [if_neg hl] at h ⊢
    cases hp : parsed s with
    | none => rw [hp] at h; cases h
    | some r =>
      rw [hp] at h
      by_cases hq : qtext r = s
      · simp [hq]
      · simp [hq] at h

theorem readQ_len {s : List UInt8} (h : (readQ s).2 ≠ 0) : (readQ s).1 = 0 := by
  unfold readQ at *
  by_cases hl : 4000 < s.length
  · rw [if_pos hl]
  · rw [if_neg hl] at h ⊢
    cases hp : parsed s with
    | none => rfl
    | some r =>
      rw [hp] at h
      by_cases hq : qtext r = s
      · simp [hq] at h
      · simp [hq]

theorem ntext_lt (n : Nat) : n < 10 ^ (ntext n).length := by
  have := dval_lt (ntext n) (ntext_dig n)
  rwa [dval_ntext] at this

theorem qtext_size (r : Rat) {L : Nat} (h : (qtext r).length ≤ L) (h1 : 1 ≤ L) : r.num.natAbs < 10 ^ L ∧ r.den < 10 ^ L := by
  have e : (qtext r).length = (if r.num < 0 then [45] else ([] : List UInt8)).length + (ntext r.num.natAbs).length + (if r.den = 1 then [] else 47 :: ntext r.den).length := by
    unfold qtext; rw [List.length_append, List.length_append]
  refine ⟨Nat.lt_of_lt_of_le (ntext_lt _) (Nat.pow_le_pow_right (by omega) (by omega)), ?_⟩
  by_cases hd : r.den = 1
  · rw [hd]
    exact Nat.lt_of_lt_of_le (by decide : 1 < 10 ^ 1) (Nat.pow_le_pow_right (by omega) h1)
  · rw [if_neg hd, List.length_cons] at e
    exact Nat.lt_of_lt_of_le (ntext_lt _) (Nat.pow_le_pow_right (by omega) (by omega))

theorem readQ_size (s : List UInt8) {L : Nat} (h : s.length ≤ L) (h1 : 1 ≤ L) : (readQ s).1.num.natAbs < 10 ^ L ∧ (readQ s).1.den < 10 ^ L := by
  by_cases hk : (readQ s).2 = 0
  · have := readQ_ok hk
    exact qtext_size _ (by rw [this]; exact h) h1
  · rw [readQ_len hk]
    have : 1 < 10 ^ L := Nat.lt_of_lt_of_le (by decide : 1 < 10 ^ 1) (Nat.pow_le_pow_right (by omega) h1)
    exact ⟨by simp; omega, by simp; omega⟩

end Go.Proofs.YtojploidgagmgaaGreatDoor.Lim

/- A range over a function whose iterator keeps limbs of its own: what the loop and the iterator promise each other, by the places of the blocks alone. -/
namespace Go.Proofs.YtojploidgagmgaaGreatDoor
open Go Go.RowKit

/-- From block m on, whatever was there is there still. -/
structure Keep (m : Nat) (A B : World) : Prop where
  size : A.heap.size ≤ B.heap.size
  block : ∀ k, m ≤ k → k < A.heap.size → B.heap[k]? = A.heap[k]?

theorem Keep.refl (m : Nat) (A : World) : Keep m A A := ⟨Nat.le_refl _, fun _ _ _ => rfl⟩
theorem Keep.trans {m : Nat} {A B C : World} (h : Keep m A B) (k : Keep m B C) : Keep m A C :=
  ⟨Nat.le_trans h.size k.size, fun i hm hi => (k.block i hm (Nat.lt_of_lt_of_le hi h.size)).trans (h.block i hm hi)⟩
theorem Keep.mono {m m' : Nat} {A B : World} (h : Keep m A B) (hm : m ≤ m') : Keep m' A B := ⟨h.size, fun k h1 h2 => h.block k (Nat.le_trans hm h1) h2⟩
theorem Keep.putObj {m l : Nat} (A : World) (o : Obj) (h : l < m) : Keep m A (A.putObj l o) := ⟨by simp, fun k hm _ => World.putObj_heap_other (by omega)⟩

theorem below_putObj {m l : Nat} (A : World) (o : Obj) (h : m ≤ l) : Below m A (A.putObj l o) := ⟨rfl, rfl, rfl, by simp, fun k hk => World.putObj_heap_other (by omega)⟩

/-- What speaks of blocks below B alone. -/
def Lies {β : Type} (B : Nat) (I : β → World → Prop) : Prop := ∀ s A C, I s A → Below B A C → I s C

/-- An iterator that may write blocks of its own: it gives elements, each of which is allowed behind those before. -/
def SeqOwn {α : Type} (F : Fence) (n : Nat) (P : Program) (g : Nat) (lb : Array Value) (enc : α → Value) (ok : List α → α → Prop) (S : List α → Prop) (w : World) : Prop :=
  ∀ (l : Nat) (J : List α → World → Prop) (W : World), Below w.heap.size w W → Lies W.heap.size J →
    (∀ pre x A, J pre A → ok pre x → YieldAt F (n - 1) P l #[enc x] A fun e C => e = .returned (.bool true) ∧ J (pre ++ [x]) C ∧ Keep W.heap.size A C) →
    J [] W →
    CallsIn F n P g (#[.func (.yield l) #[] #[]] ++ lb) W fun e W' => (∃ v, e = .returned v) ∧ ∃ xs, S xs ∧ J xs W'

variable {F : Fence} {n : Nat} {P : Program}

/-- How a round's body may be left: off its end. -/
def roundOwn {α : Type} (B : Nat) (I : List α → World → Prop) (xs : List α) (W : World) : Exit → Act → World → Prop
  | .normal, _, W' => Keep B W W' ∧ I xs W'
  | _, _, _ => False

theorem wpIn_rangeFunc_cells {α : Type} {g : Operand} {ps : Array Tmp} {assign body : Code} {Q : Exit → Act → World → Prop} {a : Act} {w : World}
    (hro : F.round = none) (h1 : 1 ≤ n) {gf : Nat} {lb : Array Value} (hg : a.eval g = .func (.func gf) #[] lb) (hFg : F.fn gf) (eg : ∀ args w, (callFunc gf args).run P w = .ok (.enter gf args) w)
    {enc : α → Value} {ok : List α → α → Prop} {S : List α → Prop} {w0 : World} (hseq : SeqOwn F (n - 1) P gf lb enc ok S w0) (hb0 : Below w0.heap.size w0 w) (hps : ps.size = 1)
    (I : List α → World → Prop) (hI : Lies w.heap.size I) (h0 : I [] w) (a₁ : α → Act)
    (hassign : ∀ (l : Nat) (x : α) (W : World) (K : Act → World → Prop), K (a₁ x) W →
      assign.wpIn (F.inRound l) (n - 1 - 1) P (Exit.then K (fun _ _ _ => False)) { tmps := (ps.zip #[enc x]).foldl (fun t (p, v) => t.setIfInBounds p v) a.tmps, defers := [] } W)
    (hbody : ∀ (l : Nat) (pre : List α) (x : α) (W : World), I pre W → ok pre x → w.heap.size ≤ W.heap.size → body.wpIn (F.inRound l) (n - 1 - 1) P (roundOwn w.heap.size I (pre ++ [x]) W) (a₁ x) W)
    (hdone : ∀ (xs : List α) (W : World), S xs → I xs W → w.heap.size < W.heap.size → W.heap[w.heap.size]? = some (.deferred (some [])) → Q .normal { a with defers := { target := .collected w.heap.size, args := #[] } :: a.defers } W) :
    (Code.rangeFunc g ps assign body).wpIn F n P Q a w := by
  refine wpIn_rangeFunc ?_
  intro fn hfn
  rw [hro]
  obtain ⟨rec, hrec⟩ : ∃ rec : LoopState → Option Code → Loop, rec = fun st pe => { state := st, pending := pe, fn, tmps := a.tmps, params := ps, assign, body, defers := w.heap.size } := ⟨_, rfl⟩
  obtain ⟨W1, hW1⟩ : ∃ W1, (w.alloc (.deferred (some []))).alloc (.loop (rec .ready none)) = W1 := ⟨_, rfl⟩
  have hs1 : W1.heap.size = w.heap.size + 2 := by rw [← hW1, World.size_alloc, World.size_alloc]
  have hL1 : W1.heap[w.heap.size + 1]? = some (.loop (rec .ready none)) := by
    rw [← hW1]
    have := World.alloc_heap_new (w.alloc (.deferred (some []))) (.loop (rec .ready none))
    rwa [World.size_alloc] at this
  have hb1 : Below w.heap.size w W1 := by rw [← hW1]; exact (((Below.refl _ w).alloc (Nat.le_refl _) _).alloc (by simp) _)
  have hK1 : W1.heap[w.heap.size]? = some (.deferred (some [])) := by
    rw [← hW1]
    exact (Below.heap_alloc _ _ _ (by simp)).trans (World.alloc_heap_new w _)
  refine ⟨w.heap.size + 1, [{ target := .collected w.heap.size, args := #[] }], W1, { target := .fn (.func gf) lb, args := #[.func (.yield (w.heap.size + 1)) #[] #[]] }, W1, gf,
    #[.func (.yield (w.heap.size + 1)) #[] #[]] ++ lb, W1, ?_, ?_, ?_, ?_, fun _ => h1, ?_⟩
  · rw [← hW1, hrec]; exact run_enterLoop_outer _ _ _ _ _
  · simp only [resolve, hg]
    simp [go_sem]
  · intro f' hf'
    simp [Target.leads] at hf'
    subst hf'
    exact hFg
  · simp [invoke, go_sem, eg]
  · refine (hseq (w.heap.size + 1)
      (fun pre W => I pre W ∧ W.heap[w.heap.size + 1]? = some (.loop (rec .ready none)) ∧ W.heap[w.heap.size]? = some (.deferred (some [])))
      W1 (hb0.trans (hb1.mono hb0.size)) ?_ ?_ ⟨hI _ _ _ h0 hb1, hL1, hK1⟩).mono ?_
    · rintro s A C ⟨hs, hl, hk⟩ hAC
      rw [hs1] at hAC
      exact ⟨hI _ _ _ hs (hAC.mono (by omega)), (hAC.block _ (by omega)).trans hl, (hAC.block _ (by omega)).trans hk⟩
    · rintro pre x A ⟨hi, hl, hk⟩ hok
      have hlt : w.heap.size + 1 < A.heap.size := (Array.getElem?_eq_some_iff.1 hl).1
      have hy := run_yield (P := P) (args := #[enc x]) hl (by rw [hrec]; simp [hps])
      rw [hrec] at hy
      refine ⟨fn, _, assign, body, hy, roundIn_of_wpIn hfn (hassign _ x A _ ⟨_, run_beginRound hl (by rw [hrec]), ?_⟩)⟩
      have hl2 : (A.putObj (w.heap.size + 1) (.loop { rec .ready none with state := .busy })).heap[w.heap.size + 1]? = some (.loop { rec .ready none with state := .busy }) := World.putObj_heap_same hlt
      have hk2 : (A.putObj (w.heap.size + 1) (.loop { rec .ready none with state := .busy })).heap[w.heap.size]? = some (.deferred (some [])) := (World.putObj_heap_other (by omega)).trans hk
      refine wpIn_mono (hbody _ pre x _ (hI _ _ _ hi (below_putObj _ _ (by omega))) hok (by rw [World.putObj_size]; omega)) ?_
      rintro e a3 W3 hp
      cases e with
      | normal =>
        obtain ⟨hk3, hi3⟩ := hp
        have hl3 := (hk3.block (w.heap.size + 1) (by omega) (by rw [World.putObj_size]; omega)).trans hl2
        have hd3 := (hk3.block w.heap.size (by omega) (by rw [World.putObj_size]; omega)).trans hk2
        have hr := run_endRound (P := P) none hl3
        rw [hrec] at hr
        refine ⟨_, _, hr, rfl, ⟨hI _ _ _ hi3 (below_putObj _ _ (by omega)), ?_, (World.putObj_heap_other (by omega)).trans hd3⟩, ?_⟩
        · rw [hrec]
          exact World.putObj_heap_same (Array.getElem?_eq_some_iff.1 hl3).1
        · rw [hs1]
          exact ((Keep.putObj _ _ (by omega)).trans (hk3.mono (by omega))).trans (Keep.putObj _ _ (by omega))
      | ret => exact hp.elim
      | exit id => exact hp.elim
      | goto t => exact hp.elim
      | panic ch => exact hp.elim
      | outgrown => exact hp.elim
    · rintro e W2 ⟨⟨v, rfl⟩, xs, hS, hi, hl, hk⟩
      have hr := run_endLoop (P := P) hl (by rw [hrec]; simp)
      rw [hrec] at hr
      refine ⟨none, _, hr, hdone xs _ hS (hI _ _ _ hi (below_putObj _ _ (by omega))) ?_ ((World.putObj_heap_other (by omega)).trans hk)⟩
      rw [World.putObj_size]
      have := (Array.getElem?_eq_some_iff.1 hk).1
      omega

end Go.Proofs.YtojploidgagmgaaGreatDoor

/- natural.digits: the decimal digits of a natural, one by one, the last one first. -/
namespace Go.Proofs.YtojploidgagmgaaGreatDoor
open Go Go.RowKit Go.Proofs Lim

/-- trim of limbs at the head of a block. -/
theorem trim_at (b n cap : Nat) (L : List Nat) (w : World) (hL : Blk w b L) (hn : n ≤ L.length) (hc1 : n ≤ cap) (hc2 : (cap : Int) ≤ 9223372036854775807) :
    Calls Tryz.prog 150 #[.slice (some ⟨b, 0, none⟩) n cap] w (fun e w' => ∃ m, e = .returned (.slice (some ⟨b, 0, none⟩) m m) ∧ m ≤ n ∧ val (L.take m) = val (L.take n) ∧ Trim (L.take m) ∧ w = w') := by
  have HR := Lib.hid hL
  clear hL
  go_enter Tryz.func150, Tryz.ntmps150
  go_wp2_with fail
  go_loop [3] (fun i => ∃ k, k ≤ n ∧ i = .int .i64 (k : Int) ∧ val (L.take k) = val (L.take n)) (fun i => (intOf i).toNat)
  case atStart => exact ⟨n, Nat.le_refl _, rfl, rfl⟩
  case round =>
    obtain ⟨k, hk, rfl, hval⟩ := hrel
    have HV := Lib.hid hval
    clear hval
    by_cases hk0 : 0 < k
    · obtain ⟨j, rfl⟩ : ∃ j, k = j + 1 := ⟨k - 1, by omega⟩
      have hcell : w.cell? ⟨b, j, none⟩ = some (u (L[j]?.getD 0)) := HR.out.cell j (by omega)
      by_cases hz : L[j]?.getD 0 = 0
      · have hzz := hz
        rw [hz] at hcell
        have HZ := Lib.hid hzz
        clear hz hzz
        go_wp2_with fail
        go_round
        case rel => exact ⟨j, by omega, rfl, by rw [← HV.out, val_take_zero (by omega) HZ.out]⟩
        case measure => simp [intOf]
      · have HZ := Lib.hid hz
        have hb : (((L[j]?.getD 0 : Nat) : Int) == 0) = false := by rw [beq_eq_false_iff_ne]; omega
        generalize hsg : L[j]?.getD 0 = s at *
        have H2 := Lib.hid hsg
        clear hsg hz
        go_wp2_with fail
        go_ret
        exact ⟨j + 1, rfl, hk, HV.out, trim_take (by omega) (by rw [H2.out]; intro h; subst h; simp at hb), rfl⟩
    · obtain rfl : k = 0 := by omega
      clear hk0
      go_wp2_with fail
      go_ret
      exact ⟨0, rfl, Nat.zero_le _, HV.out, fun h => absurd rfl h, rfl⟩

/-- A digit as the loop's value. -/
abbrev dval8 (d : Nat) : Value := .int .u8 (48 + (d : Int))

/-- What the outer loop of digits knows: the digits that have come, and the natural whose digits are still to come. -/
def DigRel (N B0 : Nat) (J : List Nat → World → Prop) (s : Value) (wr : World) : Prop :=
  ∃ pre bl m cap L, s = .slice (some ⟨bl, 0, none⟩) m cap ∧ m ≤ cap ∧ (cap : Int) ≤ 9223372036854775807 ∧ (m : Int) ≤ 1073741824 ∧ m ≤ L.length ∧ B0 ≤ bl ∧ Blk wr bl L ∧ Ok L ∧ Trim (L.take m) ∧ digs N = pre ++ digs (val (L.take m)) ∧ J pre wr

attribute [local go_sem] Oper.semAt_some

/-- What the inner loop of digits knows. -/
def GrpRel (N : Nat) (J : List Nat → World → Prop) (bl m : Nat) (L : List Nat) (s i : Value) (wr : World) : Prop :=
  ∃ pre G j, s = u G ∧ i = .int .i64 ((j : Nat) : Int) ∧ j ≤ 19 ∧ G < 10 ^ (19 - j) ∧ Blk wr bl L ∧ digs N = pre ++ digs (G + 10 ^ (19 - j) * val (L.take m)) ∧ J pre wr

theorem callsW {P : Program} {f : FuncId} {args : Array Value} {w : World} {R : Ending → World → Prop} {n : Nat} (h : Calls P f args w R) : CallsIn Fence.wide n P f args w R := callsIn_wide.2 h

set_option maxRecDepth 100000 in
set_option maxHeartbeats 2000000 in
theorem digits_own (n : Nat) (hn : 1 ≤ n) (b0 : Nat) (v : Value) (N k : Nat) (w : World) (hc : w.cell? ⟨b0, 0, none⟩ = some v) (hv : IsNat w v N) (hN : 0 < N) (hNk : N < B ^ k) (hk : (k : Int) ≤ 1073741824) :
    SeqOwn Fence.wide n Tryz.prog 152 #[.pointer (some ⟨b0, 0, none⟩)] dval8 (fun pre d => (pre ++ [d]) <+: digs N) (fun xs => xs = digs N) w := by
  intro l J W hW hJ hY h0
  have hc1 : W.cell? ⟨b0, 0, none⟩ = some v := (hW.cell (p := ⟨b0, 0, none⟩) (World.block_lt_of_cell? w _ hc)).trans hc
  have hv1 := hv.below hW (Nat.le_refl _)
  obtain ⟨xs, ⟨⟨xa, xc, rfl, h1, h2, hr⟩, ok⟩, ht, hval⟩ := hv1
  have hxl := IsNat.len ht hval hNk
  have hx0 : 0 < xs.length := by
    rcases xs with _ | ⟨x, xs⟩
    · simp [val] at hval; omega
    · simp
  obtain ⟨xb, xo, rfl, row⟩ := hr hx0
  have HCl := Lib.hid (clone_any ⟨xb, xo, none⟩ xs xc W (by omega) (fun j hj => by rw [Addr.add_lit]; exact row j hj))
  have HY := Lib.hid hY
  have HJ := Lib.hid hJ
  have H0 := Lib.hid h0
  have HOk := Lib.hid ok
  have HT := Lib.hid ht
  have HVal := Lib.hid hval
  clear hv hc hW hr row hY hJ h0 ok ht hval hNk
  refine callsIn_of_wp Tryz.func152 rfl trivial ?_ rfl
  simp only [Tryz.ntmps152, List.size_toArray, List.length_cons, List.length_nil, Nat.reduceAdd, Nat.reduceSub, Array.replicate_succ, Array.replicate_zero, List.push_toArray, List.append_toArray, List.nil_append, List.cons_append]
  gi_wp2
  refine ⟨trivial, (callsW HCl.out).mono ?_⟩
  rintro e W1 ⟨bl, cap, rfl, hbl, hB, hcc1, hcc2, hb⟩
  have H1 : Hid (DigRel N W.heap.size J (.slice (some ⟨bl, 0, none⟩) xs.length cap) W1) := by
    refine ⟨[], bl, xs.length, cap, xs, rfl, hcc1, ?_, by omega, Nat.le_refl _, hbl, hB, HOk.out, ?_, ?_, HJ.out _ _ _ H0.out hb⟩
    · unfold maxLen at hcc2; omega
    · rw [List.take_length]; exact HT.out
    · rw [List.take_length, HVal.out]; rfl
  clear hB hb hcc1 hcc2 hbl
  gi_wp2
  gi_loopw [3, 4, 14] (fun s _ _ wr => Hid (DigRel N W.heap.size J s wr)) (fun s _ _ wr => natOf wr s)
  case atStart => exact H1
  case round =>
    clear H1 HCl H0 HT HVal HOk
    obtain ⟨pre, bl, m, cap, L, rfl, hmc, hcm, hm30, hmL, hbl, hB, hO, hT, hdig, hJp⟩ := hrel.out
    clear hrel
    by_cases hm : 0 < m
    · have hmi : (0 : Int) < (m : Int) := by omega
      have HDv := Lib.hid (show Calls Tryz.prog 154 #[.slice (some ⟨bl, 0, none⟩) m cap, .int .u64 10000000000000000000] wr (DivPost wr bl m L 10000000000000000000) from divideByWord_any bl m cap L 10000000000000000000 wr hB hmL (by omega) (by decide) (by decide) hO)
      have HDig := Lib.hid hdig
      have HJp := Lib.hid hJp
      have HO' := Lib.hid hO
      have HIs : Hid (IsNat wr (.slice (some ⟨bl, 0, none⟩) m cap) (val (L.take m))) := by
        have hl : (L.take m).length = m := by rw [List.length_take]; omega
        have := Sl.of_blk hB hO 0 m cap (by omega) hmc (by unfold maxLen; omega)
        rw [List.drop_zero] at this
        exact ⟨L.take m, this, hT, rfl⟩
      have HPos : Hid (0 < val (L.take m)) := by
        have hl : (L.take m).length = m := by rw [List.length_take]; omega
        have := val_pos_of_trim hT (by intro e; rw [e] at hl; simp at hl; omega)
        exact Nat.lt_of_lt_of_le (Nat.pow_pos B_pos) this
      clear hB hO hT hdig hJp
      gi_wp2
      refine ⟨trivial, (callsW HDv.out).mono ?_⟩
      rintro e W2 ⟨G0, L', rfl, hOn, hB', hD⟩
      have hlen : L'.length = L.length := hD.len
      have HTr := Lib.hid (trim_at bl m cap L' W2 hB' (by omega) hmc (by omega))
      have HB' := Lib.hid hB'
      have HJ2 := Lib.hid (HJ.out _ _ _ HJp.out (hOn.below hbl))
      have HD' := Lib.hid hD
      clear hOn hB' hD HDv hlen
      gi_wp2
      refine ⟨trivial, (callsW HTr.out).mono ?_⟩
      rintro e w2' ⟨m', rfl, hm', hval', hT', rfl⟩
      have HV' := Lib.hid hval'
      have HT' := Lib.hid hT'
      have hsum : val (L.take m) = val (L'.take m') * 10000000000000000000 + G0 := by
        have := HD'.out.sum
        rw [List.drop_zero, List.drop_zero] at this
        rw [this, HV'.out]
      have hGlt : G0 < 10000000000000000000 := HD'.out.rest
      have HSum := Lib.hid hsum
      have HGlt := Lib.hid hGlt
      have HG : Hid (GrpRel N J bl m' L' (u G0) (.int .i64 0) W2) := by
        refine ⟨pre, G0, 0, rfl, rfl, by omega, hGlt, HB'.out, ?_, HJ2.out⟩
        rw [HDig.out, hsum]
        congr 2
        rw [Nat.add_comm, Nat.mul_comm]
      clear hval' hT' hsum hGlt HTr HJ2
      gi_wp2
      gi_loopw [4, 14] (fun s i wr' => Hid (GrpRel N J bl m' L' s i wr')) (fun _ i _ => 19 - (intOf i).toNat)
      case atStart => exact HG
      case round =>
        clear HG
        obtain ⟨pre1, G, j, rfl, rfl, hj, hG, hB1, hd1, hJ1⟩ := hrel.out
        clear hrel
        have HG := Lib.hid hG
        have HB1 := Lib.hid hB1
        have Hd1 := Lib.hid hd1
        have HJ1 := Lib.hid hJ1
        clear hG hB1 hd1 hJ1
        by_cases hj19 : j < 19
        · have hji : (j : Int) < 19 := by omega
          by_cases hz : G = 0 ∧ m' = 0
          · obtain ⟨hz1, hz2⟩ := hz
            have e1 : (((G : Nat) : Int) == 0) = true := by subst hz1; rfl
            have e2 : (((m' : Nat) : Int) == 0) = true := by subst hz2; rfl
            have hfin : pre1 = digs N := by
              rw [Hd1.out, hz1, hz2]
              simp [val, digs_zero]
            have HFin := Lib.hid hfin
            clear hz1 hz2 hfin
            gi_wp2
            refine ⟨fun _ h => (by cases h), ?_⟩
            gi_wp2
            refine bodyPost_ret (results_none rfl _ _ _) rfl ?_
            exact ⟨⟨_, rfl⟩, pre1, HFin.out, HJ1.out⟩
          · have hV0 : G + 10 ^ (19 - j) * val (L'.take m') ≠ 0 := by
              intro e
              have hG0 : G = 0 := by omega
              refine hz ⟨hG0, ?_⟩
              rcases Nat.eq_zero_or_pos m' with h | h
              · exact h
              · exfalso
                have hl : (L'.take m').length = m' := by rw [List.length_take, HD'.out.len]; omega
                have h1 := val_pos_of_trim HT'.out (by intro e; rw [e] at hl; simp at hl; omega)
                have h2 : 0 < B ^ ((L'.take m').length - 1) := Nat.pow_pos B_pos
                have h3 : 0 < 10 ^ (19 - j) := Nat.pow_pos (by omega)
                have h4 := Nat.mul_pos h3 (Nat.lt_of_lt_of_le h2 h1)
                omega
            have e10 : 10 ^ (19 - j) = 10 * 10 ^ (19 - (j + 1)) := by rw [show 19 - j = 19 - (j + 1) + 1 from by omega, Nat.pow_succ, Nat.mul_comm]
            have hmod : (G + 10 ^ (19 - j) * val (L'.take m')) % 10 = G % 10 := by rw [e10, Nat.mul_assoc, Nat.add_mul_mod_self_left]
            have hdiv : (G + 10 ^ (19 - j) * val (L'.take m')) / 10 = G / 10 + 10 ^ (19 - (j + 1)) * val (L'.take m') := by rw [e10, Nat.mul_assoc, Nat.add_mul_div_left _ _ (by omega)]
            have hd2 : digs N = (pre1 ++ [G % 10]) ++ digs (G / 10 + 10 ^ (19 - (j + 1)) * val (L'.take m')) := by
              rw [Hd1.out, digs_pos hV0, hmod, hdiv, List.append_assoc]
              rfl
            obtain ⟨fn, tmps, assign, body, hy, hR⟩ := HY.out pre1 (G % 10) wr HJ1.out ⟨_, hd2.symm⟩
            have HD2 := Lib.hid hd2
            have hG10 : G / 10 < 10 ^ (19 - (j + 1)) := by
              have := HG.out
              rw [e10] at this
              exact Nat.div_lt_of_lt_mul this
            have HG10 := Lib.hid hG10
            have HR := Lib.hid hR
            have hd10 : G % 10 < 10 := Nat.mod_lt _ (by omega)
            have t1 : Int.tmod ((G : Nat) : Int) 10 = ((G % 10 : Nat) : Int) := by rw [Int.tmod_eq_emod_of_nonneg (by omega)]; omega
            have t2 : ((G : Nat) : Int) % 10 = ((G % 10 : Nat) : Int) := by omega
            have t3 : Int.tdiv ((G : Nat) : Int) 10 = ((G / 10 : Nat) : Int) := by rw [Int.tdiv_eq_ediv_of_nonneg (by omega)]; omega
            have t4 : ((G : Nat) : Int) / 10 = ((G / 10 : Nat) : Int) := by omega
            have hGB : G < B := by
              refine Nat.lt_trans HG.out ?_
              exact Nat.lt_of_le_of_lt (Nat.pow_le_pow_right (by omega) (show 19 - j ≤ 19 by omega)) (by decide)
            have w1 : IntKind.u64.wrap ((G / 10 : Nat) : Int) = ((G / 10 : Nat) : Int) := wrap_nat (by omega)
            have w4 : IntKind.u64.wrap ((G % 10 : Nat) : Int) = ((G % 10 : Nat) : Int) := wrap_nat (by omega)
            clear hd2 hG10 hR hmod hdiv e10 hV0 hGB
            unfold dval8 at hy
            generalize G % 10 = d at *
            generalize G / 10 = G' at *
            have w2 : IntKind.u8.wrap ((d : Nat) : Int) = (d : Int) := by rw [IntKind.wrap_u8]; omega
            have w3 : IntKind.u8.wrap (48 + ((d : Nat) : Int)) = 48 + (d : Int) := by rw [IntKind.wrap_u8]; omega
            by_cases hG0 : G = 0
            · have e1 : (((G : Nat) : Int) == 0) = true := by subst hG0; rfl
              have e2 : (((m' : Nat) : Int) == 0) = false := by rw [beq_eq_false_iff_ne]; intro e; exact hz ⟨hG0, by omega⟩
              clear hz hG0
              gi_wp2
              refine HR.out.mono ?_
              rintro e W3 ⟨rfl, hJ3, hK3⟩
              have HJ3 := Lib.hid hJ3
              have HB3 := Lib.hid (HB1.out.of_block (hK3.block bl hbl HB1.out.lt))
              clear hJ3 hK3 HR hy
              gi_wp2
              go_roundw
              case rel => exact ⟨pre1 ++ [d], G', j + 1, rfl, by go_num, by omega, HG10.out, HB3.out, HD2.out, HJ3.out⟩
              case measure => simp [intOf]; omega
            · have e1 : (((G : Nat) : Int) == 0) = false := by rw [beq_eq_false_iff_ne]; omega
              clear hz hG0
              gi_wp2
              refine HR.out.mono ?_
              rintro e W3 ⟨rfl, hJ3, hK3⟩
              have HJ3 := Lib.hid hJ3
              have HB3 := Lib.hid (HB1.out.of_block (hK3.block bl hbl HB1.out.lt))
              clear hJ3 hK3 HR hy
              gi_wp2
              go_roundw
              case rel => exact ⟨pre1 ++ [d], G', j + 1, rfl, by go_num, by omega, HG10.out, HB3.out, HD2.out, HJ3.out⟩
              case measure => simp [intOf]; omega
        · obtain rfl : j = 19 := by omega
          clear hj19
          have HG0 : Hid (DigRel N W.heap.size J (.slice (some ⟨bl, 0, none⟩) m' m') wr) := by
            have h1 := HG.out
            have h2 := Hd1.out
            have h3 : G = 0 := by simpa using h1
            rw [h3] at h2
            have hl2 := HD'.out.len
            refine ⟨pre1, bl, m', m', L', rfl, Nat.le_refl _, by omega, by omega, by omega, hbl, HB1.out, HD'.out.ok, HT'.out, ?_, HJ1.out⟩
            simpa using h2
          have HIs' : Hid (IsNat wr (.slice (some ⟨bl, 0, none⟩) m' m') (val (L'.take m'))) := by
            have hl2 := HD'.out.len
            have hl : (L'.take m').length = m' := by rw [List.length_take]; omega
            have := Sl.of_blk HB1.out HD'.out.ok 0 m' m' (by omega) (Nat.le_refl _) (by unfold maxLen; omega)
            rw [List.drop_zero] at this
            exact ⟨L'.take m', this, HT'.out, rfl⟩
          clear HG
          gi_wp2
          go_roundw
          case rel => exact HG0
          case measure =>
            rw [natOf_eq HIs'.out, natOf_eq HIs.out]
            have := HSum.out
            have := HPos.out
            omega
    · obtain rfl : m = 0 := by omega
      have hfin : pre = digs N := by
        rw [hdig]
        simp [val, digs_zero]
      have HFin := Lib.hid hfin
      have HJp := Lib.hid hJp
      clear hB hO hT hdig hJp hfin hm
      gi_wp2
      refine bodyPost_end (results_none rfl _ _ _) rfl ?_
      exact ⟨⟨_, rfl⟩, pre, HFin.out, HJp.out⟩

end Go.Proofs.YtojploidgagmgaaGreatDoor
