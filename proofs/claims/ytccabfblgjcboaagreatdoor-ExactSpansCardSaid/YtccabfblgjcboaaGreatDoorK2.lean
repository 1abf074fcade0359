/- Package exact, part 2: what its functions answer, as laws on the numbers that their values stand for (Div Cmp Guess Leading Next LongDiv ShiftUp ShiftDown DivWord Over GcdWord Reduce Common Dec Ranges Digits QBase NatText QSmall QPlus QWide QOps Without QTimes QSum QRat). -/
import Derived.Test.YtccabfblgjcboaaGreatDoorK1
import Derived.Test.YtccabfblgjcboaaGreatDoorShelf
import Derived.RegionTactic
import Derived.RangeFuncIn
import Derived.RangeFuncSeq
import Derived.Below
import Derived.RangeFuncLeaves
import Derived.Shelf.Abstract
import Derived.OwnWalkIn
import Derived.TacticsInMore
import Derived.LoopNIn
import Derived.LoopIn
import Derived.Laws.IdiomStrings
import Derived.RangeFuncBox
set_option linter.unusedVariables false
set_option linter.unusedSimpArgs false

namespace Go.Proofs.YtccabfblgjcboaaGreatDoor
open Go Go.RowKit Go.Proofs Lim
theorem digit_init {U1 u2 v1 v0 : Nat} (hU : U1 < v1 * H + v0) (hv0 : v0 < H) (hu2 : u2 < H) (hv1 : H ≤ 2 * v1) :
    (U1 * H + u2) / (v1 * H + v0) ≤ U1 / v1 ∧ U1 / v1 ≤ H + 1 := by
  have hv1p : 0 < v1 := by have := H_pos; omega
  refine ⟨?_, ?_⟩
  · have h := guess_init v1 v0 0 0 U1 u2 0 1 H (U1 / v1) (U1 % v1) ((U1 * H + u2) / (v1 * H + v0)) (by omega) (by omega) hu2
      (by have := Nat.div_add_mod U1 v1; rw [Nat.zero_mul, Nat.zero_add, Nat.mul_comm]; exact this) (Nat.mod_lt _ hv1p)
      (by have := Nat.div_mul_le_self (U1 * H + u2) (v1 * H + v0); simpa using this)
    exact h
  · have h1 : U1 < v1 * (H + 2) := by rw [Nat.mul_add]; omega
    have := Nat.div_lt_of_lt_mul h1
    omega
theorem digit_lt {U1 u2 v1 v0 : Nat} (hU : U1 < v1 * H + v0) (hu2 : u2 < H) : (U1 * H + u2) / (v1 * H + v0) < H := by
  refine Nat.div_lt_of_lt_mul ?_
  have : (U1 + 1) * H ≤ (v1 * H + v0) * H := Nat.mul_le_mul_right _ hU
  rw [Nat.add_mul] at this
  omega
theorem digit_lower {U1 u2 v1 v0 g r : Nat} (hg : g * v1 + r = U1) (hbig : r * H + u2 < g * v0) : (U1 * H + u2) / (v1 * H + v0) < g := by
  refine guess_lower v1 v0 0 0 U1 u2 0 1 H g r _ (by omega) (by simpa using hg) hbig ?_
  have := Nat.div_mul_le_self (U1 * H + u2) (v1 * H + v0)
  simpa using this
theorem digit_done {U1 u2 v1 v0 g r : Nat} (hg : g * v1 + r = U1) (hfit : g * v0 ≤ r * H + u2) (hv : 0 < v1) : g ≤ (U1 * H + u2) / (v1 * H + v0) := by
  have hp : 0 < v1 * H := Nat.mul_pos hv H_pos
  refine (Nat.le_div_iff_mul_le (by omega)).2 ?_
  rw [← hg, Nat.mul_add, Nat.add_mul, Nat.mul_assoc]
  omega
theorem digit_over {U1 u2 v1 v0 g r : Nat} (hg : g * v1 + r = U1) (hr : H ≤ r) (hgH : g ≤ H) (hv0 : v0 < H) (hv : 0 < v1) : g ≤ (U1 * H + u2) / (v1 * H + v0) := by
  refine digit_done hg ?_ hv
  have h1 : g * v0 ≤ H * H := Nat.mul_le_mul hgH (by omega)
  have h2 : H * H ≤ r * H := Nat.mul_le_mul_right _ hr
  omega
theorem digit_next {G R v1 U : Nat} (h : G * v1 + R = U) (hG : 1 ≤ G) : (G - 1) * v1 + (R + v1) = U := by
  rw [← h]
  have : G * v1 = (G - 1) * v1 + v1 := by rw [← Nat.succ_mul]; congr 1; omega
  omega
theorem digit_exit {U1 u2 v1 v0 G R Q : Nat} (hQ : (U1 * H + u2) / (v1 * H + v0) = Q) (hg : G * v1 + R = U1) (hlt : Q < G) (hG : G ≤ H + 1) (hr : H ≤ R + v1) (hv0 : v0 < H) (hv : 0 < v1) :
    G - 1 = Q := by
  have h := digit_over (u2 := u2) (digit_next hg (by omega)) hr (by omega) hv0 hv
  omega
theorem digit_stop {U1 u2 v1 v0 G R Q : Nat} (hQ : (U1 * H + u2) / (v1 * H + v0) = Q) (hg : G * v1 + R = U1) (hle : Q ≤ G) (hfit : ¬ H * R + u2 < G * v0) (hv : 0 < v1) : G = Q := by
  have h := digit_done (u2 := u2) (v0 := v0) hg (by rw [Nat.mul_comm R]; omega) hv
  omega
theorem mul_fits {G v0 : Nat} (h1 : G < H) (h2 : v0 < H) : G * v0 < B := by
  rw [← HH]
  have := Nat.mul_le_mul (Nat.le_of_lt h1) (Nat.le_of_lt h2)
  have h3 : G * v0 ≤ (H - 1) * (H - 1) := Nat.mul_le_mul (by omega) (by omega)
  have h4 : (H - 1) * (H - 1) < H * H := by decide
  omega
theorem div64_small (lo y : Nat) (hy : 0 < y) (hlo : lo < B) (w : World) :
    Calls Tryz.prog 170 #[u 0, u lo, u y] w fun e w' => e = .returned (.tuple #[u (lo / y), u (lo % y)]) ∧ ∃ k, w' = w.drewN k := by
  have h1 : (((y : Nat) : Int) == 0) = false := by rw [beq_eq_false_iff_ne]; omega
  have h2 : (1 : Int) ≤ (y : Int) := by omega
  go_enter Tryz.func170, Tryz.ntmps170
  go_wp2_with fail
  go_quiet (fail)
  go_wp2_with fail
  go_ret2
  refine ⟨?_, _, rfl⟩
  show Ending.returned (.tuple #[.int .u64 (IntKind.u64.wrap ((lo : Int) / (y : Int))), .int .u64 ((lo : Int) % (y : Int))]) = _
  have : lo / y ≤ lo := Nat.div_le_self _ _
  rw [← Int.natCast_ediv, ← Int.natCast_emod, wrap_nat (by omega)]
set_option maxRecDepth 100000 in
theorem div64_any (hi lo y : Nat) (hhi : hi < y) (hhi0 : 0 < hi) (hlo : lo < B) (hyB : y < B) (w : World) :
    Calls Tryz.prog 170 #[u hi, u lo, u y] w fun e w' => e = .returned (.tuple #[u ((hi * B + lo) / y), u ((hi * B + lo) % y)]) ∧ ∃ k, w' = w.drewN k := by
  have h1 : (((y : Nat) : Int) == 0) = false := by rw [beq_eq_false_iff_ne]; omega
  have h2 : (((hi : Nat) : Int) == 0) = false := by rw [beq_eq_false_iff_ne]; omega
  obtain ⟨hs, hyn, hyn2⟩ := lz_spec (by omega) hyB
  have hsp := shl_split lo (lz y) (by omega)
  have hsl := shr_lt hlo (s := lz y) (by omega)
  have hhs : (hi + 1) * 2 ^ lz y ≤ y * 2 ^ lz y := Nat.mul_le_mul_right _ hhi
  rw [Nat.add_mul, Nat.one_mul] at hhs
  have e1 : IntKind.u64.wrap ((y : Int) * 2 ^ lz y) = ((y * 2 ^ lz y : Nat) : Int) := by rw [wrap_shl, Nat.mod_eq_of_lt hyn]
  have e2 : IntKind.u64.wrap ((hi : Int) * 2 ^ lz y) = ((hi * 2 ^ lz y : Nat) : Int) := by rw [wrap_shl, Nat.mod_eq_of_lt (Nat.lt_of_le_of_lt (Nat.le_add_right _ _) (Nat.lt_of_le_of_lt hhs hyn))]
  have e3 : bits .or .u64 ((hi * 2 ^ lz y : Nat) : Int) ((lo : Int) / 2 ^ (64 - lz y)) = ((hi * 2 ^ lz y + lo / 2 ^ (64 - lz y) : Nat) : Int) := by
    rw [div_pow, or_add hsl (Nat.lt_trans (Nat.lt_of_lt_of_le (Nat.add_lt_add_left hsl _) hhs) hyn)]
  have e4 := wrap_shl lo (lz y)
  have hq : (hi * B + lo) * 2 ^ lz y = (hi * 2 ^ lz y + lo / 2 ^ (64 - lz y)) * B + lo * 2 ^ lz y % B := by
    rw [Nat.add_mul, Nat.add_mul, Nat.mul_right_comm]
    omega
  have hlt : hi * 2 ^ lz y + lo / 2 ^ (64 - lz y) < y * 2 ^ lz y := Nat.lt_of_lt_of_le (Nat.add_lt_add_left hsl _) hhs
  have hdiv : (hi * B + lo) / y = ((hi * B + lo) * 2 ^ lz y) / (y * 2 ^ lz y) := (Nat.mul_div_mul_right _ _ (Nat.pow_pos (by omega))).symm
  have hmod : (hi * B + lo) % y = ((hi * B + lo) * 2 ^ lz y) % (y * 2 ^ lz y) / 2 ^ lz y := by
    rw [Nat.mul_mod_mul_right, Nat.mul_div_cancel _ (Nat.pow_pos (by omega))]
  rw [hdiv, hmod, hq]
  have hl10 : lo * 2 ^ lz y % B < B := Nat.mod_lt _ B_pos
  rw [show ((hi * 2 ^ lz y : Nat) : Int) = ((hi * 2 ^ lz y : Nat) : Int) from rfl] at e2
  generalize hg1 : y * 2 ^ lz y = yn at *
  generalize hg2 : hi * 2 ^ lz y + lo / 2 ^ (64 - lz y) = un32 at *
  generalize hg3 : lo * 2 ^ lz y % B = un10 at *
  generalize hg4 : hi * 2 ^ lz y = hn at *
  clear hdiv hmod hq hsp hsl hhs hg1 hg2 hg3 hg4
  have hz : lz y < 64 := by omega
  generalize hgs : lz y = s at *
  have f1 := div_half yn
  have f2 := and_half hyn
  have f3 := div_half un10
  have f4 := and_half hl10
  have d1 := Nat.div_add_mod yn H
  have d2 := Nat.div_add_mod un10 H
  have d3 := Nat.mod_lt yn H_pos
  have d4 := Nat.mod_lt un10 H_pos
  generalize yn / H = v1 at *
  generalize yn % H = v0 at *
  generalize un10 / H = n1 at *
  generalize un10 % H = n0 at *
  have hB : B = H * H := by rw [HH]
  have hv1 : H ≤ 2 * v1 := by
    rw [← d1, hB] at hyn2
    have : H * H < 2 * (H * (v1 + 1)) := by rw [Nat.mul_add]; omega
    rw [Nat.mul_left_comm] at this
    have := Nat.lt_of_mul_lt_mul_left this
    have : H % 2 = 0 := by decide
    omega
  have hn1 : n1 < H := by
    have h3 : H * n1 < H * H := by omega
    exact Nat.lt_of_mul_lt_mul_left h3
  have hv1H : v1 < H := by
    have h3 : H * v1 < H * H := by omega
    exact Nat.lt_of_mul_lt_mul_left h3
  rw [Nat.mul_comm] at d1 d2
  obtain ⟨g1, g2⟩ := digit_init (u2 := n1) (by rw [d1]; exact hlt) d3 hn1 hv1
  have g3 := digit_lt (u2 := n1) (v1 := v1) (v0 := v0) (by rw [d1]; exact hlt) hn1
  have hv1p : 0 < v1 := by have := H_pos; omega
  obtain ⟨g, hgd⟩ : ∃ g, g = un32 / v1 := ⟨_, rfl⟩
  obtain ⟨r, hrd⟩ : ∃ r, r = un32 % v1 := ⟨_, rfl⟩
  have hgr : g * v1 + r = un32 := by rw [hgd, hrd, Nat.mul_comm]; exact Nat.div_add_mod un32 v1
  have hrlt : r < v1 := by rw [hrd]; exact Nat.mod_lt _ hv1p
  rw [← hgd] at g1 g2
  have k1 : ((un32 : Nat) : Int) / (v1 : Int) = (g : Int) := by rw [hgd, Int.natCast_ediv]
  have hgB : g * v1 ≤ un32 := by omega
  obtain ⟨p, hp⟩ : ∃ p, p = g * v1 := ⟨_, rfl⟩
  have k2 : IntKind.u64.wrap ((g : Int) * (v1 : Int)) = (p : Int) := by rw [hp, ← Int.natCast_mul, wrap_nat (by omega)]
  have k3 : IntKind.u64.wrap ((un32 : Int) - (p : Int)) = (r : Int) := by rw [wrap_sub (by omega) (by omega)]; congr 1; omega
  have hHH : H = 4294967296 := rfl
  rw [hHH] at g2 d3 d4 hn1 hv1H
  have HD1 := Lib.hid d1
  have HD2 := Lib.hid d2
  have Hg1 := Lib.hid g1
  have HB := Lib.hid hB
  have Hgr := Lib.hid hgr
  have Hp := Lib.hid hp
  clear d1 d2 hB g1 hgr hp hgd hrd hHH
  go_enter Tryz.func170, Tryz.ntmps170
  go_upto_region 15 with (go_at_call 153; refine (lz_any _ hyB _).mono ?_; rintro e w' ⟨rfl, rfl⟩)
  go_upto_block 0 with (fail)
  go_cut [15] (fun q w' => q = u ((un32 * H + n1) / (v1 * H + v0)) ∧ w' = w)
  case first =>
    clear k1 k2 k3 e1 e2 e3 e4 f1 f2 f3 f4 h1 h2
    generalize hQ : (un32 * H + n1) / (v1 * H + v0) = Q at *
    have HQ := Lib.hid hQ
    clear hQ
    have i3 : (v0 : Int) < 4294967296 := by omega
    have i5 : (n1 : Int) < 4294967296 := by omega
    have i6 : (v1 : Int) < 4294967296 := by omega
    have i7 : (g : Int) ≤ 4294967297 := by omega
    clear d3 d4 hn1 hv1H g2
    go_wp2_with fail
    go_loop [15, 16] (fun q r => ∃ G R : Nat, q = u G ∧ r = u R ∧ (G : Int) ≤ 4294967297 ∧ (R : Int) < 4294967296 ∧ Hid (G * v1 + R = un32 ∧ Q ≤ G)) (fun q _ => (intOf q).toNat)
    case atStart => exact ⟨g, r, rfl, rfl, i7, by omega, Hgr.out, Hg1.out⟩
    case round =>
      obtain ⟨G, R, rfl, rfl, hG, hR, hGR⟩ := hrel
      by_cases hbig : (4294967296 : Int) ≤ (G : Int)
      · have h1G : (1 : Int) ≤ (G : Int) := by omega
        by_cases hover : (4294967296 : Int) ≤ (R : Int) + (v1 : Int)
        · go_wp2_with fail
          go_meet
          case rel =>
            refine ⟨?_, rfl⟩
            have := digit_exit HQ.out hGR.out.1 (by have := g3; unfold H at this; omega) (by unfold H; omega) (by unfold H; omega) (by unfold H; omega) hv1p
            rw [← this]
            show Value.int .u64 _ = Value.int .u64 _
            congr 1
            omega
        · go_wp2_with fail
          go_round
          case rel =>
            refine ⟨G - 1, R + v1, ?_, by go_num, by omega, by omega, digit_next hGR.out.1 (by omega), ?_⟩
            · show Value.int .u64 _ = Value.int .u64 _
              congr 1
              omega
            · have := g3; unfold H at this; omega
          case measure => simp [intOf]; omega
      · obtain ⟨m, hm⟩ : ∃ m, m = G * v0 := ⟨_, rfl⟩
        have km : IntKind.u64.wrap ((G : Int) * (v0 : Int)) = (m : Int) := by
          rw [hm, ← Int.natCast_mul, wrap_nat (mul_fits (by unfold H; omega) (by unfold H; omega))]
        have HM := Lib.hid hm
        clear hm
        by_cases htest : 4294967296 * (R : Int) + (n1 : Int) < (m : Int)
        · have hlow : Q < G := by
            have := digit_lower (u2 := n1) (v0 := v0) hGR.out.1 (by rw [← HM.out, Nat.mul_comm]; unfold H; omega)
            rw [HQ.out] at this
            exact this
          have h1G : (1 : Int) ≤ (G : Int) := by omega
          by_cases hover : (4294967296 : Int) ≤ (R : Int) + (v1 : Int)
          · go_wp2_with fail
            go_meet
            case rel =>
              refine ⟨?_, rfl⟩
              have := digit_exit HQ.out hGR.out.1 hlow (by unfold H; omega) (by unfold H; omega) (by unfold H; omega) hv1p
              rw [← this]
              show Value.int .u64 _ = Value.int .u64 _
              congr 1
              omega
          · go_wp2_with fail
            go_round
            case rel =>
              refine ⟨G - 1, R + v1, ?_, by go_num, by omega, by omega, digit_next hGR.out.1 (by omega), by omega⟩
              show Value.int .u64 _ = Value.int .u64 _
              congr 1
              omega
            case measure => simp [intOf]; omega
        · have hst := digit_stop HQ.out hGR.out.1 hGR.out.2 (by rw [← HM.out]; unfold H; omega) hv1p
          have HST := Lib.hid hst
          clear hst
          go_wp2_with fail
          go_meet
          case rel => exact ⟨by rw [HST.out], rfl⟩
  case rest =>
    obtain ⟨rfl, rfl⟩ := hcut
    clear k1 k2 k3 e1 e2 e3 e4 f1 f2 f3 f4 h1 h2 Hg1 Hgr Hp hgB hrlt g2
    have hyv : v1 * H + v0 = yn := HD1.out
    have hBH : B = H * H := HB.out
    rw [hyv] at g3 ⊢
    obtain ⟨Q1, hQ1⟩ : ∃ Q1, Q1 = (un32 * H + n1) / yn := ⟨_, rfl⟩
    obtain ⟨R1, hR1⟩ : ∃ R1, R1 = (un32 * H + n1) % yn := ⟨_, rfl⟩
    have hR1lt : R1 < yn := by rw [hR1]; exact Nat.mod_lt _ (by omega)
    have hdm : Q1 * yn + R1 = un32 * H + n1 := by rw [hQ1, hR1, Nat.mul_comm]; exact Nat.div_add_mod _ _
    rw [← hQ1] at g3 ⊢
    obtain ⟨P1, hP1⟩ : ∃ P1, P1 = Q1 * yn := ⟨_, rfl⟩
    have k4 : IntKind.u64.wrap (IntKind.u64.wrap (IntKind.u64.wrap ((un32 : Int) * 4294967296) + (n1 : Int)) - IntKind.u64.wrap ((Q1 : Int) * (yn : Int))) = (R1 : Int) := by
      rw [← Int.natCast_mul Q1 yn, ← hP1]
      rw [← hP1] at hdm
      simp only [IntKind.wrap_u64]
      unfold H at hdm
      unfold B at hyn
      omega
    obtain ⟨U2, hU2⟩ : ∃ U2, U2 = R1 * H + n0 := ⟨_, rfl⟩
    have g4 : U2 / yn < H := by rw [hU2, ← hyv]; exact digit_lt (by rw [hyv]; exact hR1lt) d4
    obtain ⟨g1', g2'⟩ := digit_init (U1 := R1) (u2 := n0) (v1 := v1) (v0 := v0) (by rw [hyv]; exact hR1lt) d3 d4 hv1
    obtain ⟨gg, hgd⟩ : ∃ gg, gg = R1 / v1 := ⟨_, rfl⟩
    obtain ⟨rr, hrd⟩ : ∃ rr, rr = R1 % v1 := ⟨_, rfl⟩
    have hgr : gg * v1 + rr = R1 := by rw [hgd, hrd, Nat.mul_comm]; exact Nat.div_add_mod R1 v1
    have hrlt : rr < v1 := by rw [hrd]; exact Nat.mod_lt _ hv1p
    rw [← hgd] at g1' g2'
    have k1 : ((R1 : Nat) : Int) / (v1 : Int) = (gg : Int) := by rw [hgd, Int.natCast_ediv]
    have hgB : gg * v1 ≤ R1 := by omega
    obtain ⟨pp, hp⟩ : ∃ pp, pp = gg * v1 := ⟨_, rfl⟩
    have k2 : IntKind.u64.wrap ((gg : Int) * (v1 : Int)) = (pp : Int) := by rw [hp, ← Int.natCast_mul, wrap_nat (by omega)]
    have k3 : IntKind.u64.wrap ((R1 : Int) - (pp : Int)) = (rr : Int) := by rw [wrap_sub (by omega) (by omega)]; congr 1; omega
    have hHH : H = 4294967296 := rfl
    rw [hHH] at g2'
    have HQ1 := Lib.hid hQ1
    have HR1 := Lib.hid hR1
    have Hdm := Lib.hid hdm
    have HP1 := Lib.hid hP1
    have HU2 := Lib.hid hU2
    have Hyv := Lib.hid hyv
    have HBH := Lib.hid hBH
    have Hgr := Lib.hid hgr
    have Hp := Lib.hid hp
    have Hg1 := Lib.hid g1'
    clear hQ1 hR1 hdm hP1 hU2 hyv hBH hgr hp hgd hrd g1' hHH
    rw [HU2.out, ← Hyv.out] at g4
    go_upto_block 2 with (fail)
    go_cut [18] (fun q w' => q = u ((R1 * H + n0) / (v1 * H + v0)) ∧ w' = wc)
    case first =>
      clear k1 k2 k3 k4
      generalize hQ : (R1 * H + n0) / (v1 * H + v0) = Q at *
      have HQ := Lib.hid hQ
      clear hQ
      have i3 : (v0 : Int) < 4294967296 := by omega
      have i5 : (n0 : Int) < 4294967296 := by omega
      have i6 : (v1 : Int) < 4294967296 := by omega
      have i7 : (gg : Int) ≤ 4294967297 := by omega
      clear d3 d4 hn1 hv1H g2'
      go_wp2_with fail
      go_loop [18, 16] (fun q r => ∃ G R : Nat, q = u G ∧ r = u R ∧ (G : Int) ≤ 4294967297 ∧ (R : Int) < 4294967296 ∧ Hid (G * v1 + R = R1 ∧ Q ≤ G)) (fun q _ => (intOf q).toNat)
      case atStart => exact ⟨gg, rr, rfl, rfl, i7, by omega, Hgr.out, Hg1.out⟩
      case round =>
        obtain ⟨G, R, rfl, rfl, hG, hR, hGR⟩ := hrel
        by_cases hbig : (4294967296 : Int) ≤ (G : Int)
        · have h1G : (1 : Int) ≤ (G : Int) := by omega
          by_cases hover : (4294967296 : Int) ≤ (R : Int) + (v1 : Int)
          · go_wp2_with fail
            go_meet
            case rel =>
              refine ⟨?_, rfl⟩
              have := digit_exit HQ.out hGR.out.1 (by have := g4; unfold H at this; omega) (by unfold H; omega) (by unfold H; omega) (by unfold H; omega) hv1p
              rw [← this]
              show Value.int .u64 _ = Value.int .u64 _
              congr 1
              omega
          · go_wp2_with fail
            go_round
            case rel =>
              refine ⟨G - 1, R + v1, ?_, by go_num, by omega, by omega, digit_next hGR.out.1 (by omega), ?_⟩
              · show Value.int .u64 _ = Value.int .u64 _
                congr 1
                omega
              · have := g4; unfold H at this; omega
            case measure => simp [intOf]; omega
        · obtain ⟨m, hm⟩ : ∃ m, m = G * v0 := ⟨_, rfl⟩
          have km : IntKind.u64.wrap ((G : Int) * (v0 : Int)) = (m : Int) := by
            rw [hm, ← Int.natCast_mul, wrap_nat (mul_fits (by unfold H; omega) (by unfold H; omega))]
          have HM := Lib.hid hm
          clear hm
          by_cases htest : 4294967296 * (R : Int) + (n0 : Int) < (m : Int)
          · have hlow : Q < G := by
              have := digit_lower (u2 := n0) (v0 := v0) hGR.out.1 (by rw [← HM.out, Nat.mul_comm]; unfold H; omega)
              rw [HQ.out] at this
              exact this
            have h1G : (1 : Int) ≤ (G : Int) := by omega
            by_cases hover : (4294967296 : Int) ≤ (R : Int) + (v1 : Int)
            · go_wp2_with fail
              go_meet
              case rel =>
                refine ⟨?_, rfl⟩
                have := digit_exit HQ.out hGR.out.1 hlow (by unfold H; omega) (by unfold H; omega) (by unfold H; omega) hv1p
                rw [← this]
                show Value.int .u64 _ = Value.int .u64 _
                congr 1
                omega
            · go_wp2_with fail
              go_round
              case rel =>
                refine ⟨G - 1, R + v1, ?_, by go_num, by omega, by omega, digit_next hGR.out.1 (by omega), by omega⟩
                show Value.int .u64 _ = Value.int .u64 _
                congr 1
                omega
              case measure => simp [intOf]; omega
          · have hst := digit_stop HQ.out hGR.out.1 hGR.out.2 (by rw [← HM.out]; unfold H; omega) hv1p
            have HST := Lib.hid hst
            clear hst
            go_wp2_with fail
            go_meet
            case rel => exact ⟨by rw [HST.out], rfl⟩
    case rest =>
      obtain ⟨rfl, rfl⟩ := hcut
      clear k1 k2 k3 k4
      rw [Hyv.out]
      have hyB' := hyB
      obtain ⟨Q0, hQ0⟩ : ∃ Q0, Q0 = (R1 * H + n0) / yn := ⟨_, rfl⟩
      obtain ⟨R0, hR0⟩ : ∃ R0, R0 = (R1 * H + n0) % yn := ⟨_, rfl⟩
      have hR0lt : R0 < yn := by rw [hR0]; exact Nat.mod_lt _ (by omega)
      have hdm0 : Q0 * yn + R0 = R1 * H + n0 := by rw [hQ0, hR0, Nat.mul_comm]; exact Nat.div_add_mod _ _
      rw [Hyv.out, ← hQ0] at g4
      rw [← hQ0]
      obtain ⟨P0, hP0⟩ : ∃ P0, P0 = Q0 * yn := ⟨_, rfl⟩
      have k4 : IntKind.u64.wrap (IntKind.u64.wrap (IntKind.u64.wrap ((R1 : Int) * 4294967296) + (n0 : Int)) - IntKind.u64.wrap ((Q0 : Int) * (yn : Int))) = (R0 : Int) := by
        rw [← Int.natCast_mul Q0 yn, ← hP0]
        rw [← hP0] at hdm0
        simp only [IntKind.wrap_u64]
        unfold H at hdm0
        unfold B at hyn
        omega
      have k5 : IntKind.u64.wrap (IntKind.u64.wrap ((Q1 : Int) * 4294967296) + (Q0 : Int)) = ((Q1 * H + Q0 : Nat) : Int) := by
        have hHH : H = 4294967296 := rfl
        simp only [IntKind.wrap_u64]
        rw [hHH] at g3 g4 ⊢
        omega
      have hfin : un32 * B + un10 = (Q1 * H + Q0) * yn + R0 := by
        have h1 := Hdm.out
        have h2 := HD2.out
        have h3 := HBH.out
        rw [← h2, h3, Nat.add_mul, Nat.mul_right_comm Q1 H yn, ← Nat.mul_assoc un32]
        have h4 : (Q1 * yn + R1) * H = (un32 * H + n1) * H := by rw [h1]
        rw [Nat.add_mul, Nat.add_mul] at h4
        omega
      have f1 : (un32 * B + un10) / yn = Q1 * H + Q0 := by
        rw [hfin, Nat.mul_comm, Nat.mul_add_div (by omega), Nat.div_eq_of_lt hR0lt, Nat.add_zero]
      have f2 : (un32 * B + un10) % yn = R0 := by
        rw [hfin, Nat.mul_comm, Nat.mul_add_mod, Nat.mod_eq_of_lt hR0lt]
      obtain ⟨Qf, hQf⟩ : ∃ Qf, Qf = Q1 * H + Q0 := ⟨_, rfl⟩
      rw [← hQf] at k5 f1
      have F1 := Lib.hid f1
      have F2 := Lib.hid f2
      clear f1 f2 hfin hdm0 hQ0 hR0 hP0 hQf
      go_wp2_with fail
      go_ret2
      refine ⟨?_, 0, rfl⟩
      rw [F1.out, F2.out]
      show Ending.returned (.tuple #[.int .u64 (Qf : Int), .int .u64 ((R0 : Int) / 2 ^ s)]) = _
      rw [div_pow]
def quo2 (hi lo y : Nat) : Nat := (hi * B + lo) / y
def rem2 (hi lo y : Nat) : Nat := (hi * B + lo) % y
theorem div64_all (hi lo y : Nat) (hhi : hi < y) (hlo : lo < B) (hyB : y < B) (w : World) :
    Calls Tryz.prog 170 #[u hi, u lo, u y] w fun e w' => e = .returned (.tuple #[u (quo2 hi lo y), u (rem2 hi lo y)]) ∧ ∃ k, w' = w.drewN k := by
  rcases Nat.eq_zero_or_pos hi with h | h
  · subst h
    have := div64_small lo y hhi hlo w
    simpa [quo2, rem2] using this
  · exact div64_any hi lo y hhi h hlo hyB w
open Go Go.RowKit Go.Proofs Lim
def cmpNat (x y : Nat) : Int := if x < y then -1 else if y < x then 1 else 0
theorem isNaN_u64 (x : Nat) (w : World) : Calls Tryz.prog 151 #[u x] w fun e w' => e = .returned (.bool false) ∧ w = w' := by
  go_enter Tryz.func151, Tryz.ntmps151
  go_wp2
  go_ret
  exact ⟨rfl, rfl⟩
theorem compare_u64 (x y : Nat) (w : World) : Calls Tryz.prog 134 #[u x, u y] w fun e w' => e = .returned (.int .i64 (cmpNat x y)) ∧ w = w' := by
  by_cases h1 : x < y
  · go_enter Tryz.func134, Tryz.ntmps134
    go_wp2_with (go_at_call 151; refine (isNaN_u64 _ _).mono ?_; rintro e w' ⟨rfl, rfl⟩)
    go_ret
    exact ⟨by rw [cmpNat, if_pos h1]; rfl, rfl⟩
  · by_cases h2 : y < x
    · go_enter Tryz.func134, Tryz.ntmps134
      go_wp2_with (go_at_call 151; refine (isNaN_u64 _ _).mono ?_; rintro e w' ⟨rfl, rfl⟩)
      go_ret
      exact ⟨by rw [cmpNat, if_neg (by omega), if_pos h2]; rfl, rfl⟩
    · go_enter Tryz.func134, Tryz.ntmps134
      go_wp2_with (go_at_call 151; refine (isNaN_u64 _ _).mono ?_; rintro e w' ⟨rfl, rfl⟩)
      go_ret
      exact ⟨by rw [cmpNat, if_neg (by omega), if_neg (by omega)]; rfl, rfl⟩
theorem val_split (l : List Nat) (j : Nat) (h : j < l.length) : val l = val (l.take j) + B ^ j * (l[j]?.getD 0 + B * val (l.drop (j + 1))) := by
  rw [val_take_drop l j (by omega), List.drop_eq_getElem_cons h, val, List.getElem?_eq_getElem h]
  rfl
theorem val_lt_of_limb {l m : List Nat} {j : Nat} (ol : Ok l) (hl : j < l.length) (hm : j < m.length) (hd : l.drop (j + 1) = m.drop (j + 1))
    (hlt : l[j]?.getD 0 < m[j]?.getD 0) : val l < val m := by
  rw [val_split l j hl, val_split m j hm, hd]
  have h1 := val_lt (ol.take j)
  rw [List.length_take, Nat.min_eq_left (by omega)] at h1
  have h2 : B ^ j * (l[j]?.getD 0 + B * val (m.drop (j + 1)) + 1) ≤ B ^ j * (m[j]?.getD 0 + B * val (m.drop (j + 1))) := Nat.mul_le_mul_left _ (by omega)
  rw [Nat.mul_add _ _ 1, Nat.mul_one] at h2
  omega
theorem val_lt_of_len {l m : List Nat} (ol : Ok l) (tm : Trim m) (h : l.length < m.length) : val l < val m := by
  have h1 := val_lt ol
  have h2 := val_pos_of_trim tm (by intro e; subst e; simp at h)
  have h3 : B ^ l.length ≤ B ^ (m.length - 1) := Nat.pow_le_pow_right B_pos (by omega)
  omega
theorem drop_step {l m : List Nat} {j : Nat} (hl : j < l.length) (hm : j < m.length) (hd : l.drop (j + 1) = m.drop (j + 1)) (he : l[j]?.getD 0 = m[j]?.getD 0) :
    l.drop j = m.drop j := by
  rw [List.drop_eq_getElem_cons hl, List.drop_eq_getElem_cons hm, hd]
  rw [List.getElem?_eq_getElem hl, List.getElem?_eq_getElem hm] at he
  exact congrArg (· :: m.drop (j + 1)) he
def Gives (w : World) (v : Value) (e : Ending) (w' : World) : Prop := e = .returned v ∧ ∃ k, w' = w.drewN k
theorem compare_any (v1 v2 : Value) (m n : Nat) (w : World) (h1 : IsNat w v1 m) (h2 : IsNat w v2 n) :
    Calls Tryz.prog 135 #[v1, v2] w (Gives w (.int .i64 (cmpNat m n))) := by
  obtain ⟨xs, ⟨⟨ao, cap1, rfl, hc1, hc2, hr1⟩, ok1⟩, t1, rfl⟩ := h1
  obtain ⟨ys, ⟨⟨bo, cap2, rfl, hd1, hd2, hr2⟩, ok2⟩, t2, rfl⟩ := h2
  unfold maxLen at hc2 hd2
  have HR1 := Lib.hid hr1
  have HR2 := Lib.hid hr2
  have HO1 := Lib.hid ok1
  have HO2 := Lib.hid ok2
  have HT1 := Lib.hid t1
  have HT2 := Lib.hid t2
  clear hr1 hr2 ok1 ok2 t1 t2
  by_cases hlen : xs.length = ys.length
  · have hb : (((xs.length : Nat) : Int) != ((ys.length : Nat) : Int)) = false := by rw [hlen]; simp
    have HLen := Lib.hid hlen
    clear hlen
    go_enter Tryz.func135, Tryz.ntmps135
    go_wp2_with fail
    go_loopw [19] (fun i wr => ∃ k q, k ≤ xs.length ∧ i = .int .i64 (k : Int) ∧ wr = w.drewN q ∧ Hid (xs.drop (xs.length - k) = ys.drop (xs.length - k))) (fun i _ => xs.length - (intOf i).toNat)
    case atStart => exact ⟨0, 0, Nat.zero_le _, rfl, rfl, by rw [Nat.sub_zero, List.drop_length, HLen.out, List.drop_length]; rfl⟩
    case round =>
      obtain ⟨k, q, hk, rfl, rfl, hd⟩ := hrel
      by_cases hlt : k < xs.length
      · obtain ⟨b1, o1, rfl, row1⟩ := HR1.out (by omega)
        obtain ⟨b2, o2, rfl, row2⟩ := HR2.out (by have := HLen.out; omega)
        obtain ⟨j, hj⟩ : ∃ j, j + 1 + k = xs.length := ⟨xs.length - 1 - k, by omega⟩
        have hc1 : w.cell? ⟨b1, o1 + j, none⟩ = some (u (xs[j]?.getD 0)) := row1 j (by omega)
        have hc2 : w.cell? ⟨b2, o2 + j, none⟩ = some (u (ys[j]?.getD 0)) := row2 j (by have := HLen.out; omega)
        have hy : (j : Int) < (ys.length : Int) := by have := HLen.out; omega
        have hx : (j : Int) < (xs.length : Int) := by omega
        have hix : ((xs.length : Nat) : Int) - 1 - (k : Int) = (j : Int) := by omega
        have HJ := Lib.hid hj
        clear hj
        generalize hxg : xs[j]?.getD 0 = x at *
        generalize hyg : ys[j]?.getD 0 = y at *
        have HX := Lib.hid hxg
        have HY := Lib.hid hyg
        clear hxg hyg row1 row2
        by_cases hxy : x = y
        · have hne : (((x : Nat) : Int) != ((y : Nat) : Int)) = false := by rw [hxy]; simp
          have HXY := Lib.hid hxy
          clear hxy
          go_wp2_with fail
          go_quiet (fail)
          go_wp2_with fail
          go_roundw
          case rel =>
            refine ⟨k + 1, _, by omega, by go_num, rfl, ?_⟩
            have hj := HJ.out
            have hlen := HLen.out
            rw [show xs.length - (k + 1) = j from by omega]
            refine drop_step (by omega) (by omega) ?_ (by rw [HX.out, HY.out, HXY.out])
            have := hd.out
            rw [show xs.length - k = j + 1 from by omega] at this
            exact this
          case measure => simp [intOf]; omega
        · have hne : (((x : Nat) : Int) != ((y : Nat) : Int)) = true := by rw [bne_iff_ne]; omega
          have HXY := Lib.hid hxy
          clear hxy
          go_wp2_with fail
          go_quiet (fail)
          go_wp2_with fail
          go_quiet ((go_at_call 134; refine (compare_u64 x y _).mono ?_; rintro e w' ⟨rfl, rfl⟩; exact ⟨rfl, _, rfl⟩))
          go_wp2_with fail
          go_ret
          refine ⟨?_, _, drew3 _ _ _ _⟩
          have hj := HJ.out
          have hlen := HLen.out
          have hdd := hd.out
          rw [show xs.length - k = j + 1 from by omega] at hdd
          show Ending.returned (.int .i64 (cmpNat x y)) = _
          rcases Nat.lt_or_gt_of_ne HXY.out with h | h
          · have := val_lt_of_limb HO1.out (by omega) (by omega) hdd (by rw [HX.out, HY.out]; exact h)
            rw [cmpNat, if_pos h, cmpNat, if_pos this]
          · have := val_lt_of_limb HO2.out (by omega) (by omega) hdd.symm (by rw [HX.out, HY.out]; exact h)
            rw [cmpNat, if_neg (by omega), if_pos h, cmpNat, if_neg (by omega), if_pos this]
      · obtain rfl : k = xs.length := by omega
        go_wp2_with fail
        go_ret
        refine ⟨?_, _, rfl⟩
        have h0 := hd.out
        rw [Nat.sub_self] at h0
        have : xs = ys := by simpa using h0
        subst this
        show Ending.returned (.int .i64 0) = _
        rw [cmpNat, if_neg (by omega), if_neg (by omega)]
  · have hb : (((xs.length : Nat) : Int) != ((ys.length : Nat) : Int)) = true := by rw [bne_iff_ne]; omega
    go_enter Tryz.func135, Tryz.ntmps135
    go_wp2_with fail
    refine (Tryz.cmp_Compare_int _ _ _).mono ?_
    rintro e w' ⟨rfl, rfl⟩
    go_wp2_with fail
    go_ret
    refine ⟨?_, 0, rfl⟩
    rcases Nat.lt_or_gt_of_ne hlen with h | h
    · have := val_lt_of_len HO1.out HT2.out h
      rw [cmpNat, if_pos this]
      show Ending.returned (.int .i64 (Lib.compareInt _ _)) = _
      rw [Lib.compareInt, if_pos (by omega)]
    · have := val_lt_of_len HO2.out HT1.out h
      rw [cmpNat, if_neg (by omega), if_pos this]
      show Ending.returned (.int .i64 (Lib.compareInt _ _)) = _
      rw [Lib.compareInt, if_neg (by omega), if_pos (by omega)]
open Go Go.RowKit Go.Proofs Lim
attribute [local go_sem] run_add64 run_sub64
theorem top2 (D : List Nat) (j : Nat) (h : D.length = j + 2) : val D = (D[j + 1]?.getD 0 * B + D[j]?.getD 0) * B ^ j + val (D.take j) := by
  have h1 : val D = val (D.take (j + 1 + 1)) := by rw [List.take_of_length_le (by omega)]
  rw [h1, val_take_succ D (j + 1) (by omega), val_take_succ D j (by omega), Nat.pow_succ, Nat.add_mul]
  generalize B ^ j = P
  generalize D[j + 1]?.getD 0 = a
  generalize D[j]?.getD 0 = b
  grind
theorem top3 (D : List Nat) (j : Nat) (h : D.length = j + 3) :
    val D = ((D[j + 2]?.getD 0 * B + D[j + 1]?.getD 0) * B + D[j]?.getD 0) * B ^ j + val (D.take j) := by
  have h1 : val D = val (D.take (j + 2 + 1)) := by rw [List.take_of_length_le (by omega)]
  rw [h1, val_take_succ D (j + 2) (by omega), val_take_succ D (j + 1) (by omega), val_take_succ D j (by omega), show B ^ (j + 2) = B ^ j * B * B from by rw [Nat.pow_succ, Nat.pow_succ], show B ^ (j + 1) = B ^ j * B from Nat.pow_succ ..]
  clear h1
  generalize B ^ j = P
  generalize D[j + 2]?.getD 0 = a
  generalize D[j + 1]?.getD 0 = b
  generalize D[j]?.getD 0 = c
  grind
structure Tops (u0 u1 u2 v1 v2 q : Nat) : Prop where
  hu2 : u2 < B
  hv2 : v2 < B
  lo : ∃ u' v' W, u' < W ∧ v' < W ∧ q * ((v1 * B + v2) * W + v') ≤ ((u0 * B + u1) * B + u2) * W + u' ∧ ((u0 * B + u1) * B + u2) * W + u' < (q + 1) * ((v1 * B + v2) * W + v')
theorem Tops.of {D W : List Nat} {j : Nat} (hD : D.length = j + 2) (hW : W.length = j + 3) (okD : Ok D) (okW : Ok W) (hv : 0 < val D) :
    Tops (W[j + 2]?.getD 0) (W[j + 1]?.getD 0) (W[j]?.getD 0) (D[j + 1]?.getD 0) (D[j]?.getD 0) (val W / val D) := by
  refine ⟨okW.get j, okD.get j, val (W.take j), val (D.take j), B ^ j, ?_, ?_, ?_, ?_⟩
  · have := val_lt (okW.take j); rwa [List.length_take, Nat.min_eq_left (by omega)] at this
  · have := val_lt (okD.take j); rwa [List.length_take, Nat.min_eq_left (by omega)] at this
  · rw [← top2 D j hD, ← top3 W j hW]; exact Nat.div_mul_le_self _ _
  · rw [← top2 D j hD, ← top3 W j hW, Nat.mul_comm]
    exact Nat.lt_mul_div_succ _ hv
theorem Tops.init {u0 u1 u2 v1 v2 q g r : Nat} (h : Tops u0 u1 u2 v1 v2 q) (hg : g * v1 + r = u0 * B + u1) (hr : r < v1) : q ≤ g := by
  obtain ⟨u', v', W, hu, hv, h1, _⟩ := h.lo
  exact guess_init v1 v2 v' u0 u1 u2 u' W B g r q hv hu h.hu2 hg hr h1
theorem Tops.lower {u0 u1 u2 v1 v2 q g r : Nat} (h : Tops u0 u1 u2 v1 v2 q) (hg : g * v1 + r = u0 * B + u1) (hbig : r * B + u2 < g * v2) : q < g := by
  obtain ⟨u', v', W, hu, hv, h1, _⟩ := h.lo
  exact guess_lower v1 v2 v' u0 u1 u2 u' W B g r q hu hg hbig h1
theorem fit_of (v1 v2 T u2 g r Bs : Nat) (hg : g * v1 + r = T) (hfit : g * v2 ≤ r * Bs + u2) : g * (v1 * Bs + v2) ≤ T * Bs + u2 := by
  rw [← hg, Nat.mul_add, Nat.add_mul, Nat.mul_assoc]; omega
theorem Tops.done {u0 u1 u2 v1 v2 q g r : Nat} (h : Tops u0 u1 u2 v1 v2 q) (hg : g * v1 + r = u0 * B + u1) (hgB : g < B) (hv1 : 0 < v1) (hfit : g * v2 ≤ r * B + u2) : g ≤ q + 1 := by
  obtain ⟨u', v', W, hu, hv, _, h2⟩ := h.lo
  exact guess_done v1 v2 v' u0 u1 u2 u' W B g q hv (Nat.le_of_lt hgB) hv1 (fit_of v1 v2 _ u2 g r B hg hfit) h2
theorem over_fit (g v2 r u2 Bs : Nat) (hg : g < Bs) (hv2 : v2 < Bs) (hr : Bs ≤ r) : g * v2 ≤ r * Bs + u2 := by
  have h1 : g * v2 ≤ Bs * Bs := Nat.mul_le_mul (by omega) (by omega)
  have h2 : Bs * Bs ≤ r * Bs := Nat.mul_le_mul_right _ hr
  omega
theorem Tops.over {u0 u1 u2 v1 v2 q g r : Nat} (h : Tops u0 u1 u2 v1 v2 q) (hg : g * v1 + r = u0 * B + u1) (hgB : g < B) (hv1 : 0 < v1) (hr : B ≤ r) : g ≤ q + 1 :=
  h.done hg hgB hv1 (over_fit g v2 r u2 B hgB h.hv2 hr)
theorem Tops.full {u0 u1 u2 v1 v2 q : Nat} (h : Tops u0 u1 u2 v1 v2 q) (hu0 : v1 ≤ u0) (hv1 : B ≤ 2 * v1) : B - 1 ≤ q + 1 := by
  obtain ⟨u', v', W, hu, hv, _, h2⟩ := h.lo
  exact guess_full v1 v2 v' u0 u1 u2 u' W B q hv B_pos h.hv2 hu0 hv1 h2
def GuessPost (w : World) (q : Nat) (e : Ending) (w' : World) : Prop := ∃ g k, e = .returned (u g) ∧ q ≤ g ∧ g ≤ q + 1 ∧ g < B ∧ w' = w.drewN k
theorem drewA (w : World) (a b c : Nat) : (w.drewN (a + b)).drewN c = w.drewN (a + (b + c)) := by rw [drew2, Nat.add_assoc]
theorem next_eq {g v1 r T : Nat} (h : g * v1 + r = T) (hg : 1 ≤ g) : (g - 1) * v1 + (r + v1) = T := by
  rw [← h]
  have : g * v1 = (g - 1) * v1 + v1 := by rw [← Nat.succ_mul]; congr 1; omega
  omega
theorem guessLimb_any (rb ro rc n n1 j N : Nat) (db dof : Nat) (dc : Nat) (u0 u1 u2 v1 v2 q : Nat) (w : World) (e1 : n1 + 1 = n) (e2 : j + 2 = n) (e3 : N = n + 1)
    (c0 : w.cell? ⟨rb, ro + n, none⟩ = some (u u0)) (c1 : w.cell? ⟨rb, ro + n1, none⟩ = some (u u1)) (c2 : w.cell? ⟨rb, ro + j, none⟩ = some (u u2))
    (d1 : w.cell? ⟨db, dof + n1, none⟩ = some (u v1)) (d2 : w.cell? ⟨db, dof + j, none⟩ = some (u v2))
    (hT : Tops u0 u1 u2 v1 v2 q) (h1 : u1 < B) (hv1B : v1 < B) (hnorm : B ≤ 2 * v1) (hq : q < B) (hj : (n : Int) ≤ 1073741827) :
    Calls Tryz.prog 174 #[.slice (some ⟨rb, ro, none⟩) N rc, .slice (some ⟨db, dof, none⟩) n dc] w (GuessPost w q) := by
  have HT := Lib.hid hT
  have hu2 := hT.hu2
  have hv2 := hT.hv2
  clear hT
  have hj0 : (0 : Int) ≤ (j : Int) := by omega
  have hj1 : (0 : Int) ≤ (n1 : Int) := by omega
  have hj2 : (0 : Int) ≤ (n : Int) := by omega
  have s1 : ((n : Nat) : Int) - 1 = ((n1 : Nat) : Int) := by omega
  have s2 : ((n : Nat) : Int) - 2 = ((j : Nat) : Int) := by omega
  have b1 : (n : Int) < (N : Int) := by omega
  have b2 : (n1 : Int) < (N : Int) := by omega
  have b3 : (j : Int) < (N : Int) := by omega
  have b4 : (n1 : Int) < (n : Int) := by omega
  have b5 : (j : Int) < (n : Int) := by omega
  clear e1 e2 e3
  by_cases hfull : v1 ≤ u0
  · have hge : (v1 : Int) ≤ (u0 : Int) := by omega
    go_enter Tryz.func174, Tryz.ntmps174
    go_wp2_with fail
    go_quiet (fail)
    go_wp2_with fail
    go_ret
    refine ⟨B - 1, _, ?_, ?_, HT.out.full hfull hnorm, by have := B_pos; omega, rfl⟩
    · show Ending.returned (.int .u64 18446744073709551615) = _
      congr 2
    · omega
  · go_enter Tryz.func174, Tryz.ntmps174
    go_wp2_with fail
    go_quiet (fail)
    go_wp2_with fail
    go_quiet ((go_at_call 170; go_must (refine (div64_all u0 u1 v1 (by omega) h1 hv1B _).mono ?_); rintro e w' ⟨rfl, m, rfl⟩; exact ⟨rfl, _, drewA _ _ _ _⟩))
    have hg0 : quo2 u0 u1 v1 * v1 + rem2 u0 u1 v1 = u0 * B + u1 := by unfold quo2 rem2; rw [Nat.mul_comm]; exact Nat.div_add_mod _ _
    have hr0 : rem2 u0 u1 v1 < v1 := Nat.mod_lt _ (by omega)
    have hq0 := HT.out.init hg0 hr0
    have hgB0 : quo2 u0 u1 v1 < B := by
      refine Nat.div_lt_of_lt_mul ?_
      have : (u0 + 1) * B ≤ v1 * B := Nat.mul_le_mul_right _ (by omega)
      rw [Nat.add_mul] at this
      omega
    go_wp2_with fail
    go_loopw [8, 9] (fun s8 s9 wr => ∃ g r k : Nat, s8 = u g ∧ s9 = u r ∧ wr = w.drewN k ∧ Hid (g * v1 + r = u0 * B + u1 ∧ q ≤ g ∧ g < B ∧ r < B)) (fun s8 _ _ => (intOf s8).toNat)
    case atStart => exact ⟨_, _, _, rfl, rfl, drew2 _ _ _, hg0, hq0, hgB0, Nat.lt_trans hr0 hv1B⟩
    case round =>
      clear hg0 hr0 hq0 hgB0
      obtain ⟨g, r, k, rfl, rfl, rfl, hG⟩ := hrel
      have hgB : g < B := hG.out.2.2.1
      have hP := Lib.hid (prod_eq g v2)
      have hplo : prodLo g v2 < B := prodLo_lt g v2
      generalize hhi : prodHi g v2 = hi at *
      generalize hlo : prodLo g v2 = lo at *
      have hcall : ∀ w, Calls Tryz.prog 132 #[u g, u v2] w fun e w' => e = .returned (.tuple #[u hi, u lo]) ∧ w = w' := fun w => by
        rw [← hhi, ← hlo]; exact mul64 g v2 hgB hv2 w
      have HC := Lib.hid hcall
      clear hcall hhi hlo
      by_cases hfit : hi < r ∨ (hi = r ∧ lo ≤ u2)
      · have hdone : g ≤ q + 1 := by
          refine HT.out.done hG.out.1 hgB (by omega) ?_
          rw [← hP.out, Nat.mul_comm B hi]
          rcases hfit with h | ⟨h, h'⟩
          · have : (hi + 1) * B ≤ r * B := Nat.mul_le_mul_right _ h
            rw [Nat.add_mul] at this
            omega
          · subst h; omega
        have HD := Lib.hid hdone
        clear hdone
        by_cases hlt : hi < r
        · clear hfit
          go_wp2_with (go_at_call 132; refine (HC.out _).mono ?_; rintro e w' ⟨rfl, rfl⟩)
          go_ret
          exact ⟨g, k, rfl, hG.out.2.1, HD.out, hgB, rfl⟩
        · obtain ⟨rfl, hle⟩ : hi = r ∧ lo ≤ u2 := hfit.resolve_left hlt
          have hb : (((hi : Nat) : Int) == ((hi : Nat) : Int)) = true := by simp
          clear hfit
          go_wp2_with (go_at_call 132; refine (HC.out _).mono ?_; rintro e w' ⟨rfl, rfl⟩)
          go_ret
          exact ⟨g, k, rfl, hG.out.2.1, HD.out, hgB, rfl⟩
      · have hbig : r * B + u2 < g * v2 := by
          rw [← hP.out, Nat.mul_comm B hi]
          rcases Nat.lt_trichotomy hi r with h | h | h
          · exact absurd (.inl h) hfit
          · subst h
            have : ¬ lo ≤ u2 := fun h' => hfit (.inr ⟨rfl, h'⟩)
            omega
          · have : (r + 1) * B ≤ hi * B := Nat.mul_le_mul_right _ h
            rw [Nat.add_mul] at this
            omega
        have hql := HT.out.lower hG.out.1 hbig
        have hg1 : (1 : Int) ≤ (g : Int) := by omega
        have hnx := Lib.hid (next_eq hG.out.1 (show 1 ≤ g by omega))
        have hsum := Lib.hid (sum_eq r v1)
        have hn1 : ¬ hi < r := fun h => hfit (.inl h)
        have hslo := sumLo_lt r v1
        obtain ⟨p, hp⟩ : ∃ p, p = g - 1 := ⟨_, rfl⟩
        have hwr : IntKind.u64.wrap ((g : Int) - 1) = (p : Int) := by
          rw [hp, show ((g : Int) - 1) = ((g - 1 : Nat) : Int) from by omega, wrap_nat (by omega)]
        rw [← hp] at hnx
        have hqp : q ≤ p := by omega
        have hpB : p < B := by omega
        have HP2 := Lib.hid hp
        clear hbig hql hp
        by_cases hov : sumHi r v1 = 0
        · have hob : (((sumHi r v1 : Nat) : Int) != 0) = false := by rw [hov]; rfl
          have HOV := Lib.hid hov
          clear hov
          by_cases heq : hi = r
          · have hb : (((hi : Nat) : Int) == ((r : Nat) : Int)) = true := by rw [heq]; simp
            have hle : ¬ lo ≤ u2 := fun h' => hfit (.inr ⟨heq, h'⟩)
            clear hfit heq
            go_wp2_with (go_at_call 132; refine (HC.out _).mono ?_; rintro e w' ⟨rfl, rfl⟩)
            go_roundw
            case rel => exact ⟨p, _, k, rfl, rfl, rfl, by have h1 := hnx.out; have h2 := hsum.out; have h3 := HOV.out; rw [h3, Nat.mul_zero, Nat.add_zero] at h2; rw [h2]; exact h1, hqp, hpB, hslo⟩
            case measure => simp [intOf]; have := HP2.out; omega
          · have hb : (((hi : Nat) : Int) == ((r : Nat) : Int)) = false := by rw [beq_eq_false_iff_ne]; omega
            clear hfit
            go_wp2_with (go_at_call 132; refine (HC.out _).mono ?_; rintro e w' ⟨rfl, rfl⟩)
            go_roundw
            case rel => exact ⟨p, _, k, rfl, rfl, rfl, by have h1 := hnx.out; have h2 := hsum.out; have h3 := HOV.out; rw [h3, Nat.mul_zero, Nat.add_zero] at h2; rw [h2]; exact h1, hqp, hpB, hslo⟩
            case measure => simp [intOf]; have := HP2.out; omega
        · have hob : (((sumHi r v1 : Nat) : Int) != 0) = true := by rw [bne_iff_ne]; omega
          have hdone : p ≤ q + 1 := by
            refine HT.out.over hnx.out hpB (by omega) ?_
            have h2 := hsum.out
            have h4 : B * 1 ≤ B * sumHi r v1 := Nat.mul_le_mul_left _ (by omega)
            omega
          have HD := Lib.hid hdone
          clear hov hdone
          by_cases heq : hi = r
          · have hb : (((hi : Nat) : Int) == ((r : Nat) : Int)) = true := by rw [heq]; simp
            have hle : ¬ lo ≤ u2 := fun h' => hfit (.inr ⟨heq, h'⟩)
            clear hfit heq
            go_wp2_with (go_at_call 132; refine (HC.out _).mono ?_; rintro e w' ⟨rfl, rfl⟩)
            go_ret
            exact ⟨p, k, rfl, hqp, HD.out, hpB, rfl⟩
          · have hb : (((hi : Nat) : Int) == ((r : Nat) : Int)) = false := by rw [beq_eq_false_iff_ne]; omega
            clear hfit
            go_wp2_with (go_at_call 132; refine (HC.out _).mono ?_; rintro e w' ⟨rfl, rfl⟩)
            go_ret
            exact ⟨p, k, rfl, hqp, HD.out, hpB, rfl⟩
open Go Go.RowKit Go.Proofs Lim
theorem lead2 {xs : List Nat} {j s : Nat} (hl : xs.length = j + 2) (ok : Ok xs) (hs : s ≤ 64) :
    ∃ r, r < B ^ j * 2 ^ (64 - s) ∧ val xs = (xs[j + 1]?.getD 0 * 2 ^ s + xs[j]?.getD 0 / 2 ^ (64 - s)) * (B ^ j * 2 ^ (64 - s)) + r := by
  have e1 : 2 ^ (64 - s) * 2 ^ s = B := by rw [← Nat.pow_add, B_eq]; congr 1; omega
  have hlow := val_lt (ok.take j)
  rw [List.length_take, Nat.min_eq_left (by omega)] at hlow
  have hp : 0 < 2 ^ (64 - s) := Nat.pow_pos (by omega)
  have hd := Nat.div_add_mod (xs[j]?.getD 0) (2 ^ (64 - s))
  have hm := Nat.mod_lt (xs[j]?.getD 0) hp
  rw [top2 xs j hl]
  refine ⟨B ^ j * (xs[j]?.getD 0 % 2 ^ (64 - s)) + val (xs.take j), ?_, ?_⟩
  · have h1 : B ^ j * (xs[j]?.getD 0 % 2 ^ (64 - s) + 1) ≤ B ^ j * 2 ^ (64 - s) := Nat.mul_le_mul_left _ hm
    rw [Nat.mul_add, Nat.mul_one] at h1
    omega
  · generalize xs[j + 1]?.getD 0 = a at *
    generalize xs[j]?.getD 0 / 2 ^ (64 - s) = q at *
    generalize xs[j]?.getD 0 % 2 ^ (64 - s) = r at *
    generalize xs[j]?.getD 0 = b at *
    generalize val (xs.take j) = v at *
    generalize B ^ j = P at *
    generalize 2 ^ (64 - s) = p at *
    generalize 2 ^ s = t at *
    rw [← hd, ← e1]
    grind
theorem lead1 {ys : List Nat} {j s : Nat} (hl : ys.length = j + 1) (ok : Ok ys) :
    ∃ r, r < B ^ j * 2 ^ (64 - s) ∧ val ys = ys[j]?.getD 0 / 2 ^ (64 - s) * (B ^ j * 2 ^ (64 - s)) + r := by
  have hlow := val_lt (ok.take j)
  rw [List.length_take, Nat.min_eq_left (by omega)] at hlow
  have hp : 0 < 2 ^ (64 - s) := Nat.pow_pos (by omega)
  have hd := Nat.div_add_mod (ys[j]?.getD 0) (2 ^ (64 - s))
  have hm := Nat.mod_lt (ys[j]?.getD 0) hp
  have ev : val ys = val (ys.take j) + B ^ j * ys[j]?.getD 0 := by
    have := val_take_succ ys j (by omega)
    rwa [List.take_of_length_le (by omega)] at this
  rw [ev]
  refine ⟨B ^ j * (ys[j]?.getD 0 % 2 ^ (64 - s)) + val (ys.take j), ?_, ?_⟩
  · have h1 : B ^ j * (ys[j]?.getD 0 % 2 ^ (64 - s) + 1) ≤ B ^ j * 2 ^ (64 - s) := Nat.mul_le_mul_left _ hm
    rw [Nat.mul_add, Nat.mul_one] at h1
    omega
  · generalize ys[j]?.getD 0 / 2 ^ (64 - s) = q at *
    generalize ys[j]?.getD 0 % 2 ^ (64 - s) = r at *
    generalize ys[j]?.getD 0 = b at *
    generalize val (ys.take j) = v at *
    generalize B ^ j = P at *
    generalize 2 ^ (64 - s) = p at *
    rw [← hd]
    grind
theorem low_fits' {t s c : Nat} (hs : s ≤ 64) (hc : c < 2 ^ s) (h : t * 2 ^ s < B) : t * 2 ^ s + c < B := by
  have e1 : 2 ^ (64 - s) * 2 ^ s = B := by rw [← Nat.pow_add, B_eq]; congr 1; omega
  have ht : t < 2 ^ (64 - s) := by rw [← e1] at h; exact Nat.lt_of_mul_lt_mul_right h
  have h3 : (t + 1) * 2 ^ s ≤ 2 ^ (64 - s) * 2 ^ s := Nat.mul_le_mul_right _ ht
  rw [e1, Nat.add_mul, Nat.one_mul] at h3
  omega
structure Leads (x y a b : Nat) : Prop where
  la : a < B
  le : b ≤ a
  split : ∃ K x' y', x' < K ∧ y' < K ∧ x = a * K + x' ∧ y = b * K + y'
def LeadPost (w : World) (x y : Nat) (e : Ending) (w' : World) : Prop := ∃ a b k, e = .returned (.tuple #[u a, u b]) ∧ Leads x y a b ∧ w' = w.drewN k
theorem lead_le {a b K x y x' y' : Nat} (hx : x = a * K + x') (hy : y = b * K + y') (hx' : x' < K) (h : y ≤ x) : b ≤ a := by
  rcases Nat.lt_or_ge a b with hlt | hge
  · exfalso
    have : (a + 1) * K ≤ b * K := Nat.mul_le_mul_right _ hlt
    rw [Nat.add_mul, Nat.one_mul] at this
    omega
  · exact hge
theorem leading_any (v1 v2 : Value) (m n : Nat) (w : World) (h1 : IsNat w v1 m) (h2 : IsNat w v2 n) (hle : n ≤ m) (hmB : B ≤ m) :
    Calls Tryz.prog 168 #[v1, v2] w (LeadPost w m n) := by
  obtain ⟨xs, s1, t1, rfl⟩ := h1
  obtain ⟨ys, s2, t2, rfl⟩ := h2
  have lxy : ys.length ≤ xs.length := length_le_of_val_le t2 s1.ok (by omega)
  have lx : 2 ≤ xs.length := by
    rcases Nat.lt_or_ge xs.length 2 with h | h
    · exfalso
      have h3 := val_lt s1.ok
      have h4 : B ^ xs.length ≤ B ^ 1 := Nat.pow_le_pow_right B_pos (by omega)
      rw [Nat.pow_one] at h4
      omega
    · exact h
  obtain ⟨j, hj⟩ : ∃ j, xs.length = j + 2 := ⟨xs.length - 2, by omega⟩
  obtain ⟨⟨xa, xc, rfl, hc1, hc2, hr1⟩, ok1⟩ := s1
  obtain ⟨⟨ya, yc, rfl, hd1, hd2, hr2⟩, ok2⟩ := s2
  obtain ⟨xb, xo, rfl, rowx⟩ := hr1 (by omega)
  have htop : 0 < xs[j + 1]?.getD 0 := by
    have hne : xs ≠ [] := by intro h; subst h; simp at lx
    have := t1 hne
    rw [List.getLast_eq_getElem hne] at this
    rw [List.getElem?_eq_getElem (by omega)]
    simp only [Option.getD_some]
    have e : xs.length - 1 = j + 1 := by omega
    simp only [e] at this
    omega
  have htB := ok1.get (j + 1)
  obtain ⟨z1, z2, z3⟩ := lz_spec htop htB
  have cx1 : w.cell? ⟨xb, xo + (j + 1), none⟩ = some (u (xs[j + 1]?.getD 0)) := rowx (j + 1) (by omega)
  have cx2 : w.cell? ⟨xb, xo + j, none⟩ = some (u (xs[j]?.getD 0)) := rowx j (by omega)
  obtain ⟨rx, hrx, exv⟩ := lead2 (s := lz (xs[j + 1]?.getD 0)) hj ok1 (by omega)
  have hx2 := ok1.get j
  have hsh := shr_lt hx2 (s := lz (xs[j + 1]?.getD 0)) (by omega)
  have hfit : xs[j + 1]?.getD 0 * 2 ^ lz (xs[j + 1]?.getD 0) + xs[j]?.getD 0 / 2 ^ (64 - lz (xs[j + 1]?.getD 0)) < B := by
    have h := low_fits' (by omega) hsh z2
    exact h
  unfold maxLen at hc2 hd2
  have e1 : IntKind.u64.wrap ((xs[j + 1]?.getD 0 : Int) * 2 ^ lz (xs[j + 1]?.getD 0)) = ((xs[j + 1]?.getD 0 * 2 ^ lz (xs[j + 1]?.getD 0) : Nat) : Int) := by rw [wrap_shl, Nat.mod_eq_of_lt z2]
  have e3 := div_pow (xs[j]?.getD 0) (64 - lz (xs[j + 1]?.getD 0))
  have e2 := or_add hsh hfit
  have hytop : ys.length = xs.length → ys[j + 1]?.getD 0 ≤ xs[j + 1]?.getD 0 := by
    intro hyl
    have ex := val_take_succ xs (j + 1) (by omega)
    rw [List.take_of_length_le (by omega), Nat.add_comm, Nat.mul_comm] at ex
    have ey := val_take_succ ys (j + 1) (by omega)
    rw [List.take_of_length_le (by omega), Nat.add_comm, Nat.mul_comm] at ey
    have hlow := val_lt (ok1.take (j + 1))
    rw [List.length_take, Nat.min_eq_left (by omega)] at hlow
    have hlow2 := val_lt (ok2.take (j + 1))
    exact lead_le ex ey hlow (by omega)
  obtain ⟨j1, hj1⟩ : ∃ j1, j1 = j + 1 := ⟨_, rfl⟩
  rw [← hj1] at e1 e2 e3 hytop cx1 z1 z2 hsh exv hrx hfit htB
  generalize htg : xs[j1]?.getD 0 = top at *
  generalize hsg : lz top = s at *
  generalize xs[j]?.getD 0 = x2 at *
  generalize x2 / 2 ^ (64 - s) = h at *
  generalize htp : top * 2 ^ s = tp at *
  obtain ⟨A, hA⟩ : ∃ A, A = tp + h := ⟨_, rfl⟩
  rw [← hA] at e2 exv hfit
  have HEX := Lib.hid exv
  have HRX := Lib.hid hrx
  have HFit := Lib.hid hfit
  have HTP := Lib.hid htp
  have HA := Lib.hid hA
  have HSG := Lib.hid hsg
  have HYT := Lib.hid hytop
  have HR2 := Lib.hid hr2
  have HO2 := Lib.hid ok2
  have HE1 := Lib.hid e1
  have HE2 := Lib.hid e2
  have i1 : ((xs.length : Nat) : Int) - 1 = (j1 : Int) := by omega
  have i2 : ((xs.length : Nat) : Int) - 2 = (j : Int) := by omega
  have i3 : (j1 : Int) < ((xs.length : Nat) : Int) := by omega
  have i4 : (j : Int) < ((xs.length : Nat) : Int) := by omega
  have i5 : (0 : Int) ≤ (j : Int) := by omega
  have i6 : (0 : Int) ≤ (j1 : Int) := by omega
  have i7 : (0 : Int) ≤ (s : Int) := by omega
  have i8 : (s : Int) ≤ 63 := by omega
  have HJ := Lib.hid hj
  have HJ1 := Lib.hid hj1
  clear exv hrx hfit htp hA hsg hytop hr1 hr2 ok1 ok2 t1 t2 rowx hj hj1 z2 z3 hsh hx2 htop htg
  clear HE1 HE2
  have HLE := Lib.hid hle
  clear hle hmB lx
  by_cases hl1 : ys.length = xs.length
  · have b1 : (((ys.length : Nat) : Int) == ((xs.length : Nat) : Int)) = true := by rw [hl1]; simp
    have HL1 := Lib.hid hl1
    clear hl1
    obtain ⟨yb, yo, rfl, rowy⟩ := HR2.out (by have := HL1.out; omega)
    have cy1 : w.cell? ⟨yb, yo + j1, none⟩ = some (u (ys[j1]?.getD 0)) := rowy j1 (by have := HL1.out; omega)
    have cy2 : w.cell? ⟨yb, yo + j, none⟩ = some (u (ys[j]?.getD 0)) := rowy j (by have := HL1.out; omega)
    have k3 : (j1 : Int) < ((ys.length : Nat) : Int) := by have := HL1.out; omega
    have k4 : (j : Int) < ((ys.length : Nat) : Int) := by have := HL1.out; omega
    obtain ⟨ry, hry, eyv⟩ := lead2 (xs := ys) (j := j) (s := s) (by have := HL1.out; have := HJ.out; omega) HO2.out (by omega)
    rw [← HJ1.out] at eyv
    have hyt : ys[j1]?.getD 0 * 2 ^ s < B := by
      have h1 : ys[j1]?.getD 0 * 2 ^ s ≤ top * 2 ^ s := Nat.mul_le_mul_right _ (HYT.out HL1.out)
      have := HTP.out
      have := HFit.out
      have := HA.out
      omega
    have hysh := shr_lt (HO2.out.get j) (s := s) (by omega)
    have hyfit := low_fits' (by omega) hysh hyt
    have f1 : IntKind.u64.wrap ((ys[j1]?.getD 0 : Int) * 2 ^ s) = ((ys[j1]?.getD 0 * 2 ^ s : Nat) : Int) := by rw [wrap_shl, Nat.mod_eq_of_lt hyt]
    have f3 := div_pow (ys[j]?.getD 0) (64 - s)
    have f2 := or_add hysh hyfit
    generalize ys[j]?.getD 0 = y2 at *
    generalize ys[j1]?.getD 0 = y1 at *
    generalize y2 / 2 ^ (64 - s) = yh at *
    generalize y1 * 2 ^ s = yp at *
    obtain ⟨C, hC⟩ : ∃ C, C = yp + yh := ⟨_, rfl⟩
    rw [← hC] at f2 eyv
    have HEY := Lib.hid eyv
    have HRY := Lib.hid hry
    clear eyv hry hyt hysh hyfit hC rowy
    go_enter Tryz.func168, Tryz.ntmps168
    go_wp2_with (go_at_call 153; refine (lz_any top htB _).mono ?_; rintro e w' ⟨rfl, rfl⟩; rw [HSG.out])
    go_quiet (fail)
    go_wp2_with fail
    go_quiet (fail)
    go_wp2_with fail
    go_ret2
    exact ⟨A, C, _, rfl, ⟨HFit.out, lead_le HEX.out HEY.out HRX.out HLE.out, B ^ j * 2 ^ (64 - s), _, _, HRX.out, HRY.out, HEX.out, HEY.out⟩, drew2 _ _ _⟩
  · have b1 : (((ys.length : Nat) : Int) == ((xs.length : Nat) : Int)) = false := by rw [beq_eq_false_iff_ne]; omega
    by_cases hl2 : ys.length = j1
    · have b2 : (((ys.length : Nat) : Int) == ((j1 : Nat) : Int)) = true := by rw [hl2]; simp
      have HL2 := Lib.hid hl2
      clear hl1 hl2
      obtain ⟨yb, yo, rfl, rowy⟩ := HR2.out (by have := HL2.out; have := HJ1.out; omega)
      have cy2 : w.cell? ⟨yb, yo + j, none⟩ = some (u (ys[j]?.getD 0)) := rowy j (by have := HL2.out; have := HJ1.out; omega)
      have k4 : (j : Int) < ((ys.length : Nat) : Int) := by have := HL2.out; have := HJ1.out; omega
      obtain ⟨ry, hry, eyv⟩ := lead1 (ys := ys) (j := j) (s := s) (by have := HL2.out; have := HJ1.out; omega) HO2.out
      have f3 := div_pow (ys[j]?.getD 0) (64 - s)
      generalize ys[j]?.getD 0 = y2 at *
      generalize y2 / 2 ^ (64 - s) = yh at *
      have HEY := Lib.hid eyv
      have HRY := Lib.hid hry
      clear eyv hry rowy
      go_enter Tryz.func168, Tryz.ntmps168
      go_wp2_with (go_at_call 153; refine (lz_any top htB _).mono ?_; rintro e w' ⟨rfl, rfl⟩; rw [HSG.out])
      go_quiet (fail)
      go_wp2_with fail
      go_quiet (fail)
      go_wp2_with fail
      go_ret2
      exact ⟨A, yh, _, rfl, ⟨HFit.out, lead_le HEX.out HEY.out HRX.out HLE.out, B ^ j * 2 ^ (64 - s), _, _, HRX.out, HRY.out, HEX.out, HEY.out⟩, drew2 _ _ _⟩
    · have b2 : (((ys.length : Nat) : Int) == ((j1 : Nat) : Int)) = false := by rw [beq_eq_false_iff_ne]; omega
      have hlj : ys.length ≤ j := by have := HJ1.out; have := HJ.out; omega
      have hvy : val ys < B ^ j * 2 ^ (64 - s) := by
        have h1 := val_lt HO2.out
        have h2 : B ^ ys.length ≤ B ^ j := Nat.pow_le_pow_right B_pos hlj
        have h3 : B ^ j * 1 ≤ B ^ j * 2 ^ (64 - s) := Nat.mul_le_mul_left _ (Nat.pow_pos (by omega))
        omega
      have HVY := Lib.hid hvy
      clear hl1 hl2 hvy hlj
      go_enter Tryz.func168, Tryz.ntmps168
      go_wp2_with (go_at_call 153; refine (lz_any top htB _).mono ?_; rintro e w' ⟨rfl, rfl⟩; rw [HSG.out])
      go_quiet (fail)
      go_wp2_with fail
      go_ret2
      exact ⟨A, 0, _, rfl, ⟨HFit.out, Nat.zero_le _, B ^ j * 2 ^ (64 - s), _, val ys, HRX.out, HVY.out, HEX.out, by rw [Nat.zero_mul, Nat.zero_add]⟩, rfl⟩
open Go Go.RowKit Go.Proofs Lim
theorem val_window (L : List Nat) (so n : Nat) (h : so + n ≤ L.length) :
    val L = val (L.take so) + B ^ so * val ((L.drop so).take n) + B ^ (so + n) * val (L.drop (so + n)) := by
  rw [val_take_drop L so (by omega), val_take_drop (L.drop so) n (by rw [List.length_drop]; omega), List.drop_drop, Nat.pow_add, Nat.mul_add, Nat.mul_assoc]
  omega
theorem window_lt {L : List Nat} (ok : Ok L) (so n : Nat) (h : so + n ≤ L.length) : val ((L.drop so).take n) < B ^ n := by
  have := val_lt ((ok.drop so).take n)
  rwa [List.length_take, List.length_drop, Nat.min_eq_left (by omega)] at this
theorem win_eq (a P Q W1 W2 x c b : Nat) (hP : 0 < P) (h : a + P * W1 + P * Q * b + P * x = a + P * W2 + P * Q * b + P * Q * c) : W1 + x = W2 + Q * c := by
  have : P * (W1 + x) = P * (W2 + Q * c) := by rw [Nat.mul_add, Nat.mul_add, ← Nat.mul_assoc]; omega
  exact Nat.eq_of_mul_eq_mul_left hP this
theorem Taken.window {L L' : List Nat} {so n x c : Nat} (h : Taken L L' so n x c) (hn : so + n ≤ L.length) :
    val ((L'.drop so).take n) + x = val ((L.drop so).take n) + B ^ n * c := by
  have h1 := h.sum
  rw [val_window L so n hn, val_window L' so n (by rw [h.len]; exact hn), h.low, h.high, Nat.pow_add] at h1
  exact win_eq _ _ _ _ _ _ _ _ (Nat.pow_pos B_pos) h1
theorem Added.window {L L' : List Nat} {so n x c : Nat} (h : Added L L' so n x c) (hn : so + n ≤ L.length) :
    val ((L.drop so).take n) + x = val ((L'.drop so).take n) + B ^ n * c := by
  have h1 := h.sum
  rw [val_window L so n hn, val_window L' so n (by rw [h.len]; exact hn), h.low, h.high, Nat.pow_add] at h1
  exact win_eq _ _ _ _ _ _ _ _ (Nat.pow_pos B_pos) h1.symm
theorem back_eq (P U V W1 W2 c c2 g q : Nat) (h1 : W1 + g * V = U + P * c) (h2 : W1 + V = W2 + P * c2) (hg : g = q + 1) (hq : q * V ≤ U) (hr : U - q * V < P) (hW : W2 < P) :
    c2 = c ∧ W2 = U - q * V := by
  subst hg
  rw [Nat.add_mul, Nat.one_mul] at h1
  have h3 : W2 + P * c2 = (U - q * V) + P * c := by omega
  have := val_eq_of_lt h3 hW hr
  exact ⟨this.2, this.1⟩
theorem Taken.back {R R1 R2 : List Nat} {ro N v g q c c2 : Nat} (h : Taken R R1 ro N (g * v) c) (h' : Added R1 R2 ro N v c2) (hn : ro + N ≤ R.length) (hg : g = q + 1)
    (hq : q * v ≤ val ((R.drop ro).take N)) (hr : val ((R.drop ro).take N) - q * v < B ^ N) : Taken R R2 ro N (q * v) 0 := by
  have h1 := h.window hn
  have h2 := h'.window (by rw [h.len]; exact hn)
  have h3 := window_lt h'.ok ro N (by rw [h'.len, h.len]; exact hn)
  obtain ⟨e1, _⟩ := back_eq _ _ _ _ _ _ _ _ _ h1 h2 hg hq hr h3
  subst e1
  refine ⟨by rw [h'.len, h.len], h'.ok, by rw [h'.low, h.low], by rw [h'.high, h.high], ?_⟩
  have s1 := h.sum
  have s2 := h'.sum
  rw [hg, Nat.add_mul, Nat.one_mul, Nat.mul_add] at s1
  rw [Nat.mul_zero, Nat.add_zero]
  omega
def NextPost (w : World) (rb ro N : Nat) (R : List Nat) (q v : Nat) (e : Ending) (w' : World) : Prop :=
  ∃ R', e = .returned (u q) ∧ Only rb w w' ∧ Blk w' rb R' ∧ Taken R R' ro N (q * v) 0
theorem get_window (R : List Nat) (ro N i : Nat) (h : i < N) : ((R.drop ro).take N)[i]?.getD 0 = R[ro + i]?.getD 0 := by
  rw [List.getElem?_take, if_pos h, List.getElem?_drop]
theorem nextLimb_any (rb ro rc n N : Nat) (db dof : Nat) (dc : Nat) (R D : List Nat) (w : World) (hN : N = n + 1) (h2 : 2 ≤ n) (hDl : D.length = n)
    (hR : Blk w rb R) (hn : ro + N ≤ R.length) (hD : Row w db dof D) (hne : db ≠ rb) (okR : Ok R) (okD : Ok D) (hnorm : B ≤ 2 * D[n - 1]?.getD 0)
    (hU : val ((R.drop ro).take N) < val D * B) (hmax : (n : Int) ≤ 1073741827) :
    Calls Tryz.prog 155 #[.slice (some ⟨rb, ro, none⟩) N rc, .slice (some ⟨db, dof, none⟩) n dc] w (NextPost w rb ro N R (val ((R.drop ro).take N) / val D) (val D)) := by
  subst hDl
  obtain ⟨j, hj⟩ : ∃ j, D.length = j + 2 := ⟨D.length - 2, by omega⟩
  have okW : Ok ((R.drop ro).take N) := (okR.drop _).take _
  have hWl : ((R.drop ro).take N).length = N := by rw [List.length_take, List.length_drop]; omega
  have hvp : 0 < val D := by
    rcases Nat.eq_zero_or_pos (val D) with h | h
    · rw [h] at hU; omega
    · exact h
  have hT := Tops.of (D := D) (W := (R.drop ro).take N) (j := j) (by omega) (by omega) okD okW hvp
  rw [get_window _ _ _ _ (by omega), get_window _ _ _ _ (by omega), get_window _ _ _ _ (by omega)] at hT
  have hqB : val ((R.drop ro).take N) / val D < B := Nat.div_lt_of_lt_mul hU
  have hql : val ((R.drop ro).take N) / val D * val D ≤ val ((R.drop ro).take N) := Nat.div_mul_le_self _ _
  have hqu : val ((R.drop ro).take N) < (val ((R.drop ro).take N) / val D + 1) * val D := by rw [Nat.mul_comm]; exact Nat.lt_mul_div_succ _ hvp
  have hvlt : val D < B ^ N := by
    have := val_lt okD
    have h3 : B ^ D.length ≤ B ^ N := Nat.pow_le_pow_right B_pos (by omega)
    omega
  rw [show D.length - 1 = j + 1 from by omega] at hnorm
  have c0 : w.cell? ⟨rb, ro + (j + 2), none⟩ = _ := hR.cell (ro + (j + 2)) (by omega)
  have c1 : w.cell? ⟨rb, ro + (j + 1), none⟩ = _ := hR.cell (ro + (j + 1)) (by omega)
  have c2 : w.cell? ⟨rb, ro + j, none⟩ = _ := hR.cell (ro + j) (by omega)
  have d1 : w.cell? ⟨db, dof + (j + 1), none⟩ = _ := hD (j + 1) (by omega)
  have d2 : w.cell? ⟨db, dof + j, none⟩ = _ := hD j (by omega)
  have HG : Calls Tryz.prog 174 #[.slice (some ⟨rb, ro, none⟩) N rc, .slice (some ⟨db, dof, none⟩) D.length dc] w (GuessPost w (val ((R.drop ro).take N) / val D)) :=
    guessLimb_any rb ro rc D.length (j + 1) j N db dof dc _ _ _ _ _ _ w (by omega) (by omega) hN (by rw [hj]; exact c0) c1 c2 d1 d2 hT (okR.get _) (okD.get _) hnorm hqB hmax
  generalize hq : val ((R.drop ro).take N) / val D = q at *
  have HGG := Lib.hid HG
  have HR := Lib.hid hR
  have HD := Lib.hid hD
  have HOR := Lib.hid okR
  have HOD := Lib.hid okD
  have HN := Lib.hid hN
  have Hql := Lib.hid hql
  have Hqu := Lib.hid hqu
  have Hvl := Lib.hid hvlt
  clear HG hR hD okR okD hN hT c0 c1 c2 d1 d2 okW hWl hq hj hql hqu hU hvp hvlt
  go_enter Tryz.func155, Tryz.ntmps155
  go_wp2_with fail
  refine HGG.out.mono ?_
  rintro e w' ⟨g, k, rfl, hg1, hg2, hgB, rfl⟩
  go_wp2_with fail
  refine (takeMultiple_any rb ro N rc dc R D (some ⟨db, dof, none⟩) g (w.drewN k) (show Blk (w.drewN k) rb R from HR.out) hn (by have := HN.out; omega) (by have := HN.out; omega) hgB HOR.out HOD.out
    (fun _ => ⟨db, dof, rfl, hne, HD.out⟩)).mono ?_
  rintro e w2 ⟨c, R1, hc, rfl, hO2, hB2, hA2⟩
  have HB2 := Lib.hid hB2
  have HO2 := Lib.hid (((Only.refl rb w).drewN k).trans hO2)
  have HA2 := Lib.hid hA2
  clear hB2 hO2 hA2
  have hwin := HA2.out.window hn
  rw [Nat.mul_comm (B ^ N) c] at hwin
  by_cases hc0 : c = 0
  · have hgq : g = q := by
      subst hc0
      rcases Nat.lt_or_ge q g with h | h
      · exfalso
        have h1 : (q + 1) * val D ≤ g * val D := Nat.mul_le_mul_right _ h
        have := Hqu.out
        omega
      · omega
    subst hgq
    have hb : (((c : Nat) : Int) != 0) = false := by subst hc0; rfl
    have HC0 := Lib.hid hc0
    clear hc0 hwin
    go_wp2_with fail
    go_ret
    refine ⟨R1, rfl, HO2.out, HB2.out, ?_⟩
    have := HA2.out
    rw [HC0.out] at this
    exact this
  · have hb : (((c : Nat) : Int) != 0) = true := by rw [bne_iff_ne]; omega
    have hgq : g = q + 1 := by
      rcases Nat.lt_or_ge q g with h | h
      · omega
      · exfalso
        have hgg : g = q := by omega
        subst hgg
        have h1 := window_lt HA2.out.ok ro N (by rw [HA2.out.len]; exact hn)
        have h2 : 1 * B ^ N ≤ c * B ^ N := Nat.mul_le_mul_right _ (by omega)
        have := Hql.out
        omega
    have hgi : IntKind.u64.wrap ((g : Int) - 1) = (q : Int) := by
      rw [hgq, show (((q + 1 : Nat) : Int) - 1) = ((q : Nat) : Int) from by omega, wrap_nat (by omega)]
    have HGQ := Lib.hid hgq
    clear hc0 hwin hgq
    go_wp2_with fail
    refine (addMultiple_one rb ro N rc dc R1 D (some ⟨db, dof, none⟩) w2 HB2.out (by rw [HA2.out.len]; exact hn) (by have := HN.out; omega) (by have := HN.out; omega) HA2.out.ok HOD.out
      (fun _ => ⟨db, dof, rfl, hne, HO2.out.row hne HD.out⟩)).mono ?_
    rintro e w3 ⟨rfl, hO3, c2, R2, hB3, hA3⟩
    have HB3 := Lib.hid hB3
    have HO3 := Lib.hid (HO2.out.trans hO3)
    have HA3 := Lib.hid hA3
    clear hB3 hO3 hA3
    go_wp2_with fail
    go_ret
    refine ⟨R2, rfl, HO3.out, HB3.out, HA2.out.back HA3.out hn HGQ.out Hql.out ?_⟩
    have := Hqu.out
    have := Hvl.out
    rw [Nat.add_mul] at *
    omega
open Go Go.RowKit Go.Proofs Lim
structure Long (X v : Nat) (R QL : List Nat) (nr lc j : Nat) : Prop where
  lenR : R.length = nr
  lenQ : QL.length = lc
  okR : Ok R
  okQ : Ok QL
  lt : val R < v * B ^ j
  sum : X = val R + v * (B ^ j * val (QL.drop j))
theorem Long.window_lt {X v : Nat} {R QL : List Nat} {nr lc j n : Nat} (h : Long X v R QL nr lc (j + 1)) (hn : j + (n + 1) ≤ nr) : val ((R.drop j).take (n + 1)) < v * B := by
  have h1 := val_window R j (n + 1) (by rw [h.lenR]; exact hn)
  have h2 := h.lt
  have h3 : B ^ j * val ((R.drop j).take (n + 1)) ≤ val R := by
    rw [h1]
    generalize val (R.take j) = a
    generalize B ^ j * val ((R.drop j).take (n + 1)) = b
    generalize B ^ (j + (n + 1)) * val (R.drop (j + (n + 1))) = c
    omega
  have h4 : B ^ j * val ((R.drop j).take (n + 1)) < B ^ j * (v * B) := by
    have e : v * B ^ (j + 1) = B ^ j * (v * B) := by rw [Nat.pow_succ]; grind
    rw [e] at h2
    exact Nat.lt_of_le_of_lt h3 h2
  exact Nat.lt_of_mul_lt_mul_left h4
theorem top_zero (P a W Q c V : Nat) (h : a + P * W + P * Q * c < P * V) (hV : V ≤ Q) : c = 0 := by
  rcases Nat.eq_zero_or_pos c with h0 | h0
  · exact h0
  · exfalso
    have h1 : P * Q * 1 ≤ P * Q * c := Nat.mul_le_mul_left _ h0
    have h2 : P * V ≤ P * Q := Nat.mul_le_mul_left _ hV
    omega
theorem rest_lt (P a W v q R' R : Nat) (ha : a < P) (hR : R = a + P * W) (hq : W < (q + 1) * v) (hs : R' + P * (q * v) = R) : R' < v * P := by
  have h1 : P * W < P * ((q + 1) * v) ∨ P = 0 := by
    rcases Nat.eq_zero_or_pos P with h | h
    · exact .inr h
    · exact .inl ((Nat.mul_lt_mul_left h).2 hq)
  rcases h1 with h1 | h1
  · have h2 : P * (W + 1) ≤ P * ((q + 1) * v) := Nat.mul_le_mul_left _ hq
    rw [Nat.add_mul q 1 v, Nat.one_mul, Nat.mul_add, Nat.mul_add, Nat.mul_one] at h2
    rw [Nat.mul_comm v P]
    omega
  · omega
theorem Long.step {X v : Nat} {R R' QL : List Nat} {nr lc j n : Nat} (h : Long X v R QL nr lc (j + 1)) (hn : j + (n + 1) ≤ nr) (hj : j < lc) (hv : 0 < v) (hvn : v < B ^ n)
    (ht : Taken R R' j (n + 1) (val ((R.drop j).take (n + 1)) / v * v) 0) (hqB : val ((R.drop j).take (n + 1)) / v < B) :
    Long X v R' (QL.set j (val ((R.drop j).take (n + 1)) / v)) nr lc j := by
  have h1 := val_window R j (n + 1) (by rw [h.lenR]; exact hn)
  have h2 := h.lt
  have hz : val (R.drop (j + (n + 1))) = 0 := by
    rw [h1, Nat.pow_add] at h2
    have e : v * B ^ (j + 1) = B ^ j * (v * B) := by rw [Nat.pow_succ]; grind
    rw [e] at h2
    refine top_zero _ _ _ _ _ _ h2 ?_
    rw [Nat.pow_succ]
    exact Nat.mul_le_mul_right _ (Nat.le_of_lt hvn)
  rw [hz, Nat.mul_zero, Nat.add_zero] at h1
  have hq : val ((R.drop j).take (n + 1)) < (val ((R.drop j).take (n + 1)) / v + 1) * v := by rw [Nat.mul_comm]; exact Nat.lt_mul_div_succ _ hv
  generalize hW : val ((R.drop j).take (n + 1)) = W at *
  generalize hqg : W / v = q at *
  have hs := ht.sum
  rw [Nat.mul_zero, Nat.add_zero] at hs
  have ha : val (R.take j) < B ^ j := by
    have := val_lt (h.okR.take j); rwa [List.length_take, Nat.min_eq_left (by have := h.lenR; omega)] at this
  refine ⟨by rw [ht.len, h.lenR], by rw [List.length_set, h.lenQ], ht.ok, h.okQ.set _ _ hqB, rest_lt _ _ _ _ _ _ _ ha h1 hq hs, ?_⟩
  have hd : (QL.set j q).drop j = q :: QL.drop (j + 1) := by
    rw [List.drop_eq_getElem_cons (by rw [List.length_set, h.lenQ]; exact hj), List.getElem_set_self, List.drop_set, if_pos (by omega)]
  rw [hd, val, h.sum, ← hs, Nat.pow_succ]
  generalize val R' = r
  generalize val (QL.drop (j + 1)) = z
  generalize B ^ j = P
  grind
theorem Long.done {m n p X : Nat} {R QL : List Nat} {nr lc : Nat} (h : Long X (n * p) R QL nr lc 0) (hX : X = m * p) (hp : 0 < p) (hn : 0 < n) : val QL = m / n ∧ val R / p = m % n := by
  have h1 := h.sum
  have h2 := h.lt
  rw [Nat.pow_zero, Nat.one_mul, List.drop_zero] at h1
  rw [Nat.pow_zero, Nat.mul_one] at h2
  subst hX
  have e1 : val QL = m * p / (n * p) := by
    rw [h1, Nat.add_mul_div_left _ _ (Nat.mul_pos hn hp), Nat.div_eq_of_lt h2, Nat.zero_add]
  have e2 : val R = m * p % (n * p) := by rw [h1, Nat.add_mul_mod_self_left, Nat.mod_eq_of_lt h2]
  rw [e1, e2, Nat.mul_div_mul_right _ _ hp, Nat.mul_mod_mul_right, Nat.mul_div_cancel _ hp]
  exact ⟨rfl, rfl⟩
theorem norm_len {D ys : List Nat} {s : Nat} (tD : Trim D) (okD : Ok D) (hD : val D = val ys * 2 ^ s) (okY : Ok ys) (k : Nat) (hk : ys.length = k + 1)
    (h1 : ys[k]?.getD 0 * 2 ^ s < B) (h2 : B ≤ 2 * (ys[k]?.getD 0 * 2 ^ s)) : D.length = k + 1 ∧ B ≤ 2 * D[k]?.getD 0 ∧ B ^ (k + 1) ≤ 2 * val D := by
  have ey : val ys = val (ys.take k) + B ^ k * ys[k]?.getD 0 := by
    have := val_take_succ ys k (by omega)
    rwa [List.take_of_length_le (by omega)] at this
  have hlow : val (ys.take k) < B ^ k := by
    have := val_lt (okY.take k); rwa [List.length_take, Nat.min_eq_left (by omega)] at this
  generalize ys[k]?.getD 0 = t at *
  generalize val (ys.take k) = a at *
  have hup : val D < B ^ (k + 1) := by
    rw [hD, ey, Nat.pow_succ]
    have hs63 : s ≤ 64 := by
      rcases Nat.lt_or_ge s 65 with h | h
      · omega
      · exfalso
        have h3 : 2 ^ 65 ≤ 2 ^ s := Nat.pow_le_pow_right (by omega) h
        have h4 : (2 : Nat) ^ 65 = 2 * B := by decide
        rcases Nat.eq_zero_or_pos t with ht | ht
        · subst ht
          have := B_pos
          omega
        · have h5 : 1 * 2 ^ s ≤ t * 2 ^ s := Nat.mul_le_mul_right _ ht
          have := B_pos
          omega
    have e1 : 2 ^ (64 - s) * 2 ^ s = B := by rw [← Nat.pow_add, B_eq]; congr 1; omega
    have ht : t < 2 ^ (64 - s) := by rw [← e1] at h1; exact Nat.lt_of_mul_lt_mul_right h1
    have h3 : (t + 1) * 2 ^ s ≤ 2 ^ (64 - s) * 2 ^ s := Nat.mul_le_mul_right _ ht
    rw [e1] at h3
    have h4 : (a + B ^ k * t) < B ^ k * (t + 1) := by rw [Nat.mul_add, Nat.mul_one]; omega
    have hp : 0 < 2 ^ s := Nat.pow_pos (by omega)
    have h5 : (a + B ^ k * t) * 2 ^ s < B ^ k * (t + 1) * 2 ^ s := (Nat.mul_lt_mul_right hp).2 h4
    have h6 : B ^ k * ((t + 1) * 2 ^ s) ≤ B ^ k * B := Nat.mul_le_mul_left _ h3
    rw [← Nat.mul_assoc] at h6
    omega
  have hlo : B ^ (k + 1) ≤ 2 * val D := by
    rw [hD, ey, Nat.pow_succ, Nat.add_mul, Nat.mul_add, Nat.mul_assoc]
    have h3 : B ^ k * B ≤ B ^ k * (2 * (t * 2 ^ s)) := Nat.mul_le_mul_left _ h2
    have e : B ^ k * (2 * (t * 2 ^ s)) = 2 * (B ^ k * (t * 2 ^ s)) := by rw [Nat.mul_left_comm]
    omega
  have hlen : D.length = k + 1 := by
    have l1 := IsNat.len tD rfl hup
    have l2 : k < D.length := by
      have h3 := val_lt okD
      have h4 : B ^ k * 2 ≤ B ^ k * B := Nat.mul_le_mul_left _ two_le_B
      rw [Nat.pow_succ] at hlo
      have h5 : B ^ k < B ^ D.length ∨ B ^ k = val D := by omega
      rcases h5 with h5 | h5
      · exact (Nat.pow_lt_pow_iff_right (show 1 < B by decide)).1 h5
      · rw [h5] at *
        have h6 : B ^ k < B ^ D.length := by omega
        exact (Nat.pow_lt_pow_iff_right (show 1 < B by decide)).1 h6
    omega
  refine ⟨hlen, ?_, hlo⟩
  have eD : val D = val (D.take k) + B ^ k * D[k]?.getD 0 := by
    have := val_take_succ D k (by omega)
    rwa [List.take_of_length_le (by omega)] at this
  have hl2 : val (D.take k) < B ^ k := by
    have := val_lt (okD.take k); rwa [List.length_take, Nat.min_eq_left (by omega)] at this
  generalize D[k]?.getD 0 = d at *
  rw [eD, Nat.pow_succ] at hlo
  have h7 : B ^ k * B < B ^ k * (2 * (d + 1)) := by
    have e : B ^ k * (2 * (d + 1)) = 2 * (B ^ k * d) + 2 * B ^ k := by rw [Nat.mul_left_comm, Nat.mul_add, Nat.mul_add, Nat.mul_one]
    omega
  have h8 := Nat.lt_of_mul_lt_mul_left h7
  have : B % 2 = 0 := by decide
  omega
theorem Long.start {xs D R : List Nat} {s lx lc : Nat} (hR : val R = val xs * 2 ^ s) (okR : Ok R) (hlR : R.length = lx + 1) (okX : Ok xs) (hlx : xs.length = lx) (hs : s ≤ 63)
    (hD : B ^ D.length ≤ 2 * val D) (hlc : lc + D.length = lx + 1) : Long (val xs * 2 ^ s) (val D) R (List.replicate lc 0) (lx + 1) lc lc := by
  refine ⟨hlR, by simp, okR, Ok.replicate _, ?_, by rw [hR, List.drop_of_length_le (by simp)]; simp [val]⟩
  have h1 := val_lt okX
  rw [hlx] at h1
  have h2 : 2 ^ s ≤ 2 ^ 63 := Nat.pow_le_pow_right (by omega) hs
  have e1 : 2 * 2 ^ 63 = B := by decide
  have h3 : val xs * 2 ^ s ≤ val xs * 2 ^ 63 := Nat.mul_le_mul_left _ h2
  have h4 : val xs * 2 ^ 63 < B ^ lx * 2 ^ 63 := (Nat.mul_lt_mul_right (Nat.pow_pos (by omega))).2 h1
  have h5 : B ^ D.length * B ^ lc ≤ 2 * val D * B ^ lc := Nat.mul_le_mul_right _ hD
  have e2 : B ^ lx * B = 2 * (B ^ lx * 2 ^ 63) := by rw [show B ^ lx * B = B ^ lx * (2 * 2 ^ 63) from by rw [e1], Nat.mul_left_comm]
  rw [← Nat.pow_add, show D.length + lc = lx + 1 from by omega, Nat.pow_succ, e2, Nat.mul_assoc] at h5
  rw [hR]
  omega
open Go Go.RowKit Go.Proofs Lim
theorem low_part {x s : Nat} (hs : s ≤ 64) : x * 2 ^ s % B = x % 2 ^ (64 - s) * 2 ^ s := by
  have e1 : 2 ^ (64 - s) * 2 ^ s = B := by rw [← Nat.pow_add, B_eq]; congr 1; omega
  rw [← e1, Nat.mul_mod_mul_right]
theorem low_fits {x s c : Nat} (hs : s ≤ 64) (hc : c < 2 ^ s) : x % 2 ^ (64 - s) * 2 ^ s + c < B := by
  have e1 : 2 ^ (64 - s) * 2 ^ s = B := by rw [← Nat.pow_add, B_eq]; congr 1; omega
  have h1 : x % 2 ^ (64 - s) < 2 ^ (64 - s) := Nat.mod_lt _ (Nat.pow_pos (by omega))
  have h2 : (x % 2 ^ (64 - s) + 1) * 2 ^ s ≤ 2 ^ (64 - s) * 2 ^ s := Nat.mul_le_mul_right _ h1
  rw [Nat.add_mul, Nat.one_mul, e1] at h2
  omega
theorem or_low {x s c : Nat} (hs : s ≤ 64) (hc : c < 2 ^ s) : bits .or .u64 (c : Int) ((x * 2 ^ s % B : Nat) : Int) = ((x * 2 ^ s % B + c : Nat) : Int) := by
  rw [low_part hs]
  exact or_add' hc (low_fits hs hc)
structure Up (xs L : List Nat) (s k : Nat) : Prop where
  len : L.length = xs.length + 1
  ok : Ok L
  next : L[k]?.getD 0 < 2 ^ s
  zeros : ∀ j, k < j → L[j]?.getD 0 = 0
  sum : val L = val (xs.take k) * 2 ^ s
theorem Up.start (xs : List Nat) (s : Nat) : Up xs (List.replicate (xs.length + 1) 0) s 0 :=
  ⟨by simp, Ok.replicate _, by simp; exact Nat.pow_pos (by omega), fun j _ => by rw [List.getElem?_replicate]; split <;> rfl, by rw [val_replicate]; simp [val]⟩
theorem Up.step {xs L : List Nat} {s k : Nat} (h : Up xs L s k) (hk : k < xs.length) (okx : Ok xs) (hs : s ≤ 64) :
    Up xs ((L.set k (xs[k]?.getD 0 * 2 ^ s % B + L[k]?.getD 0)).set (k + 1) (xs[k]?.getD 0 / 2 ^ (64 - s))) s (k + 1) := by
  have hx := okx.get k
  generalize hxe : xs[k]?.getD 0 = x at *
  have h1 : x * 2 ^ s % B + L[k]?.getD 0 < B := by rw [low_part hs]; exact low_fits hs h.next
  have h2 : x / 2 ^ (64 - s) < 2 ^ s := shr_lt hx hs
  have h3 : x / 2 ^ (64 - s) < B := Nat.lt_of_le_of_lt (Nat.div_le_self _ _) hx
  have hl1 : k < L.length := by rw [h.len]; omega
  have hl2 : k + 1 < (L.set k (x * 2 ^ s % B + L[k]?.getD 0)).length := by rw [List.length_set, h.len]; omega
  refine ⟨by simp [h.len], (h.ok.set _ _ h1).set _ _ h3, ?_, ?_, ?_⟩
  · rw [List.getElem?_set_self hl2]; exact h2
  · intro j hj
    rw [List.getElem?_set_ne (by omega), List.getElem?_set_ne (by omega)]
    exact h.zeros j (by omega)
  · have v1 := val_set L k (x * 2 ^ s % B + L[k]?.getD 0) hl1
    have v2 := val_set (L.set k (x * 2 ^ s % B + L[k]?.getD 0)) (k + 1) (x / 2 ^ (64 - s)) hl2
    rw [List.getElem?_set_ne (by omega), h.zeros (k + 1) (by omega), Nat.mul_zero, Nat.add_zero] at v2
    rw [v2, val_take_succ xs k hk, hxe, Nat.add_mul, ← h.sum]
    have hsp := shl_split x s hs
    have e : B ^ k * x * 2 ^ s = B ^ (k + 1) * (x / 2 ^ (64 - s)) + B ^ k * (x * 2 ^ s % B) := by
      rw [Nat.mul_assoc, hsp, Nat.mul_add, Nat.pow_succ, Nat.mul_assoc, Nat.mul_comm B (x / 2 ^ (64 - s))]
      rw [← hsp]
    rw [e]
    rw [Nat.mul_add] at v1
    omega
def UpPost (w : World) (n v : Nat) (e : Ending) (w' : World) : Prop :=
  ∃ b L, e = .returned (.slice (some ⟨b, 0, none⟩) n n) ∧ w.heap.size ≤ b ∧ Blk w' b L ∧ L.length = n ∧ Ok L ∧ val L = v ∧ Below w.heap.size w w'
theorem shiftUp_any (v1 : Value) (xs : List Nat) (s : Nat) (w : World) (h1 : Sl w v1 xs) (hs : s ≤ 63) (hk : (xs.length : Int) ≤ 1073741825) :
    Calls Tryz.prog 154 #[v1, .int .i64 (s : Int)] w (UpPost w (xs.length + 1) (val xs * 2 ^ s)) := by
  obtain ⟨⟨xa, xc, rfl, hc1, hc2, hr1⟩, ok1⟩ := h1
  obtain ⟨i0, hi, hz0, hz1, hz2⟩ := info_parts info_u64
  unfold maxLen at hc2
  have HR1 := Lib.hid hr1
  have HO1 := Lib.hid ok1
  clear hr1 ok1
  have hs0 : (0 : Int) ≤ (s : Int) := by omega
  have hs1 : (s : Int) ≤ 63 := by omega
  go_enter Tryz.func154, Tryz.ntmps154
  go_wp2_with (at_make; refine wpList_make_full _ rfl _ _ 109 rfl w.heap.size 23 i0 (.int .u64 0) 1 Tryz.underlying109 hi hz0 hz1 _ _ _ _ (xs.length + 1) rfl rfl (by omega) (by omega) ?qb2 ?qb3 ?qb4 ?_)
  case qb2 => rw [hz2]; omega
  case qb3 => unfold maxLen; omega
  case qb4 => exact Nat.le_refl _
  intro w1 hown hgrow
  obtain ⟨hB1, hbel⟩ := made_blk hown hgrow
  clear hown hgrow hi hz0 hz1 hz2
  have HB1 := Lib.hid hB1
  have HBel := Lib.hid hbel
  clear hB1 hbel
  go_wp2_with fail
  go_loopw [13] (fun i wr => ∃ k L, k ≤ xs.length ∧ i = .int .i64 (k : Int) ∧ Hid (Blk wr w.heap.size L) ∧ Hid (Up xs L s k) ∧ Hid (Below w.heap.size w wr)) (fun i _ => xs.length - (intOf i).toNat)
  case atStart => exact ⟨0, _, Nat.zero_le _, rfl, HB1.out, Up.start xs s, HBel.out⟩
  case round =>
    obtain ⟨k, L, hk', rfl, hB, hU, hBe⟩ := hrel
    by_cases hlt : k < xs.length
    · obtain ⟨xb, xo, rfl, hxrow⟩ := HR1.out (by omega)
      have hxb := hxrow.lt (by omega)
      have hxc : wr.cell? ⟨xb, xo + k, none⟩ = some (u (xs[k]?.getD 0)) := (hBe.out.cell (p := ⟨xb, xo + k, none⟩) hxb).trans (hxrow k hlt)
      have hlc : wr.cell? ⟨w.heap.size, k, none⟩ = some (u (L[k]?.getD 0)) := hB.out.cell k (by rw [hU.out.len]; omega)
      have hz1 : wr.frozen? ⟨w.heap.size, k, none⟩ = false := hB.out.frozen _
      have hz2 : wr.frozen? ⟨w.heap.size, k + 1, none⟩ = false := hB.out.frozen _
      have hlc2 : wr.cell? ⟨w.heap.size, k + 1, none⟩ = some (u (L[k + 1]?.getD 0)) := hB.out.cell (k + 1) (by rw [hU.out.len]; omega)
      have HU2 := Lib.hid (Up.step hU.out hlt HO1.out (by omega))
      have hnx := hU.out.next
      generalize hxg : xs[k]?.getD 0 = x at *
      generalize hcg : L[k]?.getD 0 = c at *
      generalize hcg2 : L[k + 1]?.getD 0 = c2 at *
      have e1 := wrap_shl x s
      have e2 := or_low (x := x) (by omega) hnx
      have e3 := div_pow x (64 - s)
      generalize x * 2 ^ s % B = lo at *
      generalize x / 2 ^ (64 - s) = h at *
      clear hnx hxg hcg hcg2 hxrow
      have hne : ¬ xb = w.heap.size := by omega
      have hne' : ¬ w.heap.size = xb := by omega
      go_wp2_with fail
      go_region
      go_wp2_with fail
      go_roundw
      case rel =>
        rw [← Int.natCast_add]
        refine ⟨k + 1, _, by omega, by go_num, ?_, HU2.out, ?_⟩
        · exact ((hB.out.set k (lo + c) (by rw [hU.out.len]; omega)).set (k + 1) h (by rw [List.length_set, hU.out.len]; omega)).drew
        · exact hBe.out.trans ((((Only.refl w.heap.size wr).set k _).set (k + 1) _).drew.below (Nat.le_refl _))
      case measure => simp [intOf]; omega
    · obtain rfl : k = xs.length := by omega
      go_wp2_with fail
      go_ret
      refine ⟨w.heap.size, L, rfl, Nat.le_refl _, hB.out, hU.out.len, hU.out.ok, ?_, hBe.out⟩
      have := hU.out.sum
      rw [List.take_length] at this
      exact this
open Go Go.RowKit Go.Proofs Lim
theorem or_high {x s c : Nat} (hs : s ≤ 64) (hc : c < 2 ^ (64 - s)) : bits .or .u64 (c : Int) ((x * 2 ^ (64 - s) % B : Nat) : Int) = ((x % 2 ^ s * 2 ^ (64 - s) + c : Nat) : Int) := by
  have h := or_low (x := x) (s := 64 - s) (by omega) hc
  have e := low_part (x := x) (s := 64 - s) (by omega)
  rw [show 64 - (64 - s) = s from by omega] at e
  rw [h, e]
structure Down (xs L : List Nat) (s k : Nat) : Prop where
  len : L.length = xs.length
  ok : Ok L
  last : ∀ j, k = j + 1 → L[j]?.getD 0 < 2 ^ (64 - s)
  zeros : ∀ j, k ≤ j → L[j]?.getD 0 = 0
  sum : val L = val (xs.take k) / 2 ^ s
theorem Down.start (xs : List Nat) (s : Nat) : Down xs (List.replicate xs.length 0) s 0 :=
  ⟨by simp, Ok.replicate _, fun j h => by omega, fun j _ => by rw [List.getElem?_replicate]; split <;> rfl, by rw [val_replicate]; simp [val]⟩
theorem Down.first {xs L : List Nat} {s : Nat} (h : Down xs L s 0) (hk : 0 < xs.length) (okx : Ok xs) (hs : s ≤ 64) : Down xs (L.set 0 (xs[0]?.getD 0 / 2 ^ s)) s 1 := by
  have hx := okx.get 0
  have hl : 0 < L.length := by rw [h.len]; exact hk
  have e1 : 2 ^ s * 2 ^ (64 - s) = B := by rw [← Nat.pow_add, B_eq]; congr 1; omega
  refine ⟨by simp [h.len], h.ok.set _ _ (Nat.lt_of_le_of_lt (Nat.div_le_self _ _) hx), ?_, ?_, ?_⟩
  · intro j hj
    obtain rfl : j = 0 := by omega
    rw [List.getElem?_set_self hl]
    exact Nat.div_lt_of_lt_mul (by rw [e1]; exact hx)
  · intro j hj
    rw [List.getElem?_set_ne (by omega)]
    exact h.zeros j (by omega)
  · have v1 := val_set L 0 (xs[0]?.getD 0 / 2 ^ s) hl
    rw [h.zeros 0 (by omega), h.sum, Nat.pow_zero, Nat.one_mul] at v1
    have v2 := val_take_succ xs 0 hk
    rw [v2]
    simp only [List.take_zero, val, Nat.zero_add, Nat.pow_zero, Nat.one_mul, Nat.add_zero, Nat.zero_div] at v1 ⊢
    exact v1
theorem Down.step {xs L : List Nat} {s k : Nat} (h : Down xs L s (k + 1)) (hk : k + 1 < xs.length) (okx : Ok xs) (hs : s ≤ 64) :
    Down xs ((L.set (k + 1) (xs[k + 1]?.getD 0 / 2 ^ s)).set k (xs[k + 1]?.getD 0 % 2 ^ s * 2 ^ (64 - s) + L[k]?.getD 0)) s (k + 2) := by
  have hx := okx.get (k + 1)
  have e1 : 2 ^ s * 2 ^ (64 - s) = B := by rw [← Nat.pow_add, B_eq]; congr 1; omega
  have hps : 0 < 2 ^ s := Nat.pow_pos (by omega)
  generalize hxe : xs[k + 1]?.getD 0 = x at *
  have hlast := h.last k rfl
  have h1 : x % 2 ^ s * 2 ^ (64 - s) + L[k]?.getD 0 < B := by
    have h1 : x % 2 ^ s < 2 ^ s := Nat.mod_lt _ hps
    have h2 : (x % 2 ^ s + 1) * 2 ^ (64 - s) ≤ 2 ^ s * 2 ^ (64 - s) := Nat.mul_le_mul_right _ h1
    rw [Nat.add_mul, Nat.one_mul, e1] at h2
    omega
  have h3 : x / 2 ^ s < B := Nat.lt_of_le_of_lt (Nat.div_le_self _ _) hx
  have hl1 : k + 1 < L.length := by rw [h.len]; exact hk
  have hl2 : k < (L.set (k + 1) (x / 2 ^ s)).length := by rw [List.length_set, h.len]; omega
  refine ⟨by simp [h.len], (h.ok.set _ _ h3).set _ _ h1, ?_, ?_, ?_⟩
  · intro j hj
    obtain rfl : j = k + 1 := by omega
    rw [List.getElem?_set_ne (by omega), List.getElem?_set_self hl1]
    exact Nat.div_lt_of_lt_mul (by rw [e1]; exact hx)
  · intro j hj
    rw [List.getElem?_set_ne (by omega), List.getElem?_set_ne (by omega)]
    exact h.zeros j (by omega)
  · have v1 := val_set L (k + 1) (x / 2 ^ s) hl1
    have v2 := val_set (L.set (k + 1) (x / 2 ^ s)) k (x % 2 ^ s * 2 ^ (64 - s) + L[k]?.getD 0) hl2
    rw [h.zeros (k + 1) (by omega), Nat.mul_zero, Nat.add_zero] at v1
    rw [List.getElem?_set_ne (by omega), v1, h.sum] at v2
    rw [show k + 2 = k + 1 + 1 from rfl, val_take_succ xs (k + 1) hk, hxe]
    have e2 : B ^ (k + 1) * x = (B ^ (k + 1) * (x / 2 ^ s) + B ^ k * (x % 2 ^ s * 2 ^ (64 - s))) * 2 ^ s := by
      have hd := Nat.div_add_mod x (2 ^ s)
      rw [Nat.pow_succ]
      generalize x / 2 ^ s = q at *
      generalize x % 2 ^ s = r at *
      rw [← hd, ← e1]
      generalize 2 ^ s = p at *
      generalize 2 ^ (64 - s) = p' at *
      generalize B ^ k = P at *
      grind
    rw [e2, Nat.add_mul_div_right _ _ hps]
    rw [Nat.mul_add] at v2
    omega
theorem shiftDown_any (v1 : Value) (xs : List Nat) (s : Nat) (w : World) (h1 : Sl w v1 xs) (hs : s ≤ 63) (hk : (xs.length : Int) ≤ 1073741825) :
    Calls Tryz.prog 156 #[v1, .int .i64 (s : Int)] w (UpPost w xs.length (val xs / 2 ^ s)) := by
  obtain ⟨⟨xa, xc, rfl, hc1, hc2, hr1⟩, ok1⟩ := h1
  obtain ⟨i0, hi, hz0, hz1, hz2⟩ := info_parts info_u64
  unfold maxLen at hc2
  have HR1 := Lib.hid hr1
  have HO1 := Lib.hid ok1
  clear hr1 ok1
  have hs0 : (0 : Int) ≤ (s : Int) := by omega
  have hs1 : (s : Int) ≤ 63 := by omega
  go_enter Tryz.func156, Tryz.ntmps156
  go_wp2_with (at_make; refine wpList_make_full _ rfl _ _ 109 rfl w.heap.size 23 i0 (.int .u64 0) 1 Tryz.underlying109 hi hz0 hz1 _ _ _ _ xs.length rfl rfl (by omega) (by omega) ?qb2 ?qb3 ?qb4 ?_)
  case qb2 => rw [hz2]; omega
  case qb3 => unfold maxLen; omega
  case qb4 => exact Nat.le_refl _
  intro w1 hown hgrow
  obtain ⟨hB1, hbel⟩ := made_blk hown hgrow
  clear hown hgrow hi hz0 hz1 hz2
  have HB1 := Lib.hid hB1
  have HBel := Lib.hid hbel
  clear hB1 hbel
  go_wp2_with fail
  go_loopw [12] (fun i wr => ∃ k L, k ≤ xs.length ∧ i = .int .i64 (k : Int) ∧ Hid (Blk wr w.heap.size L) ∧ Hid (Down xs L s k) ∧ Hid (Below w.heap.size w wr)) (fun i _ => xs.length - (intOf i).toNat)
  case atStart => exact ⟨0, _, Nat.zero_le _, rfl, HB1.out, Down.start xs s, HBel.out⟩
  case round =>
    obtain ⟨k, L, hk', rfl, hB, hU, hBe⟩ := hrel
    by_cases hlt : k < xs.length
    · obtain ⟨xb, xo, rfl, hxrow⟩ := HR1.out (by omega)
      have hxb := hxrow.lt (by omega)
      have hne : ¬ xb = w.heap.size := by omega
      have hne' : ¬ w.heap.size = xb := by omega
      have hxc : wr.cell? ⟨xb, xo + k, none⟩ = some (u (xs[k]?.getD 0)) := (hBe.out.cell (p := ⟨xb, xo + k, none⟩) hxb).trans (hxrow k hlt)
      have hz1 : wr.frozen? ⟨w.heap.size, k, none⟩ = false := hB.out.frozen _
      have hlc : wr.cell? ⟨w.heap.size, k, none⟩ = some (u (L[k]?.getD 0)) := hB.out.cell k (by rw [hU.out.len]; omega)
      rcases k with _ | k
      · have HU2 := Lib.hid (Down.first hU.out hlt HO1.out (by omega))
        generalize hxg : xs[0]?.getD 0 = x at *
        generalize hcg : L[0]?.getD 0 = c at *
        have e3 := div_pow x s
        generalize x / 2 ^ s = h at *
        rw [Nat.add_zero] at hxc
        clear hxg hcg hxrow
        go_wp2_with fail
        go_roundw
        case rel =>
          refine ⟨1, _, by omega, rfl, hB.out.set 0 h (by rw [hU.out.len]; omega), HU2.out, ?_⟩
          exact hBe.out.trans (((Only.refl w.heap.size wr).set 0 _).below (Nat.le_refl _))
        case measure => simp [intOf]; omega
      · have HU2 := Lib.hid (Down.step hU.out hlt HO1.out (by omega))
        have hnx := hU.out.last k rfl
        have hlc2 : wr.cell? ⟨w.heap.size, k, none⟩ = some (u (L[k]?.getD 0)) := hB.out.cell k (by rw [hU.out.len]; omega)
        have hz2 : wr.frozen? ⟨w.heap.size, k, none⟩ = false := hB.out.frozen _
        generalize hxg : xs[k + 1]?.getD 0 = x at *
        generalize hcg : L[k + 1]?.getD 0 = c at *
        generalize hcg2 : L[k]?.getD 0 = c2 at *
        have e1 := wrap_shl x (64 - s)
        have e2 := or_high (x := x) (by omega) hnx
        have e3 := div_pow x s
        generalize x * 2 ^ (64 - s) % B = lo at *
        generalize x / 2 ^ s = h at *
        generalize x % 2 ^ s * 2 ^ (64 - s) = lo2 at *
        clear hnx hxg hcg hcg2 hxrow
        go_wp2_with fail
        go_region
        go_wp2_with fail
        go_roundw
        case rel =>
          rw [← Int.natCast_add]
          refine ⟨k + 2, _, by omega, by go_num, ?_, HU2.out, ?_⟩
          · exact ((hB.out.set (k + 1) h (by rw [hU.out.len]; omega)).set k (lo2 + c2) (by rw [List.length_set, hU.out.len]; omega)).drew
          · exact hBe.out.trans ((((Only.refl w.heap.size wr).set (k + 1) _).set k _).drew.below (Nat.le_refl _))
        case measure => simp [intOf]; omega
    · obtain rfl : k = xs.length := by omega
      go_wp2_with fail
      go_ret
      refine ⟨w.heap.size, L, rfl, Nat.le_refl _, hB.out, hU.out.len, hU.out.ok, ?_, hBe.out⟩
      have := hU.out.sum
      rw [List.take_length] at this
      exact this
open Go Go.RowKit Go.Proofs Lim
theorem div_lt_B {r l d : Nat} (hr : r < d) (hl : l < B) : (r * B + l) / d < B := by
  refine Nat.div_lt_of_lt_mul ?_
  have : (r + 1) * B ≤ d * B := Nat.mul_le_mul_right _ hr
  rw [Nat.add_mul] at this
  omega
structure Divided (L L' : List Nat) (n j d r : Nat) : Prop where
  len : L'.length = L.length
  ok : Ok L'
  low : L'.take j = L.take j
  high : L'.drop n = L.drop n
  rest : r < d
  sum : val ((L.take n).drop j) = val ((L'.take n).drop j) * d + r
theorem Divided.start (L : List Nat) (n d : Nat) (h : Ok L) (hd : 0 < d) : Divided L L n n d 0 :=
  ⟨rfl, h, rfl, rfl, hd, by rw [List.drop_of_length_le (by simp; omega)]; simp [val]⟩
theorem drop_take_step (L : List Nat) (n j : Nat) (hj : j < n) (hn : n ≤ L.length) : (L.take n).drop j = L[j]?.getD 0 :: (L.take n).drop (j + 1) := by
  rw [List.drop_eq_getElem_cons (by simp; omega)]
  congr 1
  rw [List.getElem_take, List.getElem?_eq_getElem (by omega)]
  rfl
theorem Divided.step {L L' : List Nat} {n j d r : Nat} (h : Divided L L' n (j + 1) d r) (hj : j < n) (hn : n ≤ L.length) :
    Divided L (L'.set j (quo2 r (L'[j]?.getD 0) d)) n j d (rem2 r (L'[j]?.getD 0) d) := by
  unfold quo2 rem2
  have hl : L'[j]?.getD 0 = L[j]?.getD 0 := by
    have := congrArg (fun l => l[j]?) h.low
    simp only [List.getElem?_take, if_pos (show j < j + 1 from by omega)] at this
    rw [this]
  have hq := div_lt_B (d := d) h.rest (h.ok.get j)
  refine ⟨by rw [List.length_set, h.len], h.ok.set _ _ hq, ?_, ?_, Nat.mod_lt _ (by have := h.rest; omega), ?_⟩
  · rw [List.take_set, List.set_eq_of_length_le (by simp; omega)]
    have := congrArg (List.take j) h.low
    simpa [List.take_take, Nat.min_eq_left (show j ≤ j + 1 from by omega)] using this
  · rw [List.drop_set, if_pos hj, h.high]
  · rw [drop_take_step _ _ _ hj hn, drop_take_step _ _ _ hj (by rw [List.length_set, h.len]; exact hn)]
    have e1 : (L'.set j ((r * B + L'[j]?.getD 0) / d))[j]?.getD 0 = (r * B + L'[j]?.getD 0) / d := by
      rw [List.getElem?_set_self (by rw [h.len]; omega)]; rfl
    have e2 : ((L'.set j ((r * B + L'[j]?.getD 0) / d)).take n).drop (j + 1) = (L'.take n).drop (j + 1) := by
      rw [List.take_set, List.drop_set, if_pos (by omega)]
    rw [e1, e2, val, val, h.sum, ← hl]
    have := Nat.div_add_mod (r * B + L'[j]?.getD 0) d
    generalize L'[j]?.getD 0 = l at *
    generalize (r * B + l) / d = q at *
    generalize (r * B + l) % d = m at *
    generalize val (List.drop (j + 1) (List.take n L')) = v at *
    grind
def DivPost (w : World) (b n : Nat) (L : List Nat) (d : Nat) (e : Ending) (w' : World) : Prop :=
  ∃ r L', e = .returned (u r) ∧ Only b w w' ∧ Blk w' b L' ∧ Divided L L' n 0 d r
theorem divideByWord_any (b n : Nat) (cap : Nat) (L : List Nat) (d : Nat) (w : World) (hL : Blk w b L) (hn : n ≤ L.length) (hmax : (n : Int) ≤ 4611686018427387904)
    (hd : 0 < d) (hdB : d < B) (okL : Ok L) : Calls Tryz.prog 147 #[.slice (some ⟨b, 0, none⟩) n cap, u d] w (DivPost w b n L d) := by
  have HL := Lib.hid hL
  have HO := Lib.hid okL
  clear hL okL
  go_enter Tryz.func147, Tryz.ntmps147
  go_wp2_with fail
  go_loopw [5, 10] (fun r i wr => ∃ k c L', k ≤ n ∧ i = .int .i64 (k : Int) ∧ r = u c ∧ Hid (Divided L L' n (n - k) d c) ∧ Hid (Blk wr b L') ∧ Hid (Only b w wr)) (fun _ i _ => n - (intOf i).toNat)
  case atStart => exact ⟨0, 0, L, Nat.zero_le _, rfl, rfl, Divided.start L n d HO.out hd, HL.out, Only.refl _ _⟩
  case round =>
    obtain ⟨k, c, L', hk, rfl, rfl, hD, hB, hO⟩ := hrel
    by_cases hlt : k < n
    · obtain ⟨j, hj⟩ : ∃ j, j + 1 + k = n := ⟨n - 1 - k, by omega⟩
      have hlen : L'.length = L.length := hD.out.len
      have hc : wr.cell? ⟨b, j, none⟩ = some (u (L'[j]?.getD 0)) := hB.out.cell j (by omega)
      have hfz : wr.frozen? ⟨b, j, none⟩ = false := hB.out.frozen _
      have hix : ((n : Nat) : Int) - 1 - (k : Int) = (j : Int) := by omega
      have hjn : (j : Int) < (n : Int) := by omega
      have hcd : c < d := hD.out.rest
      have hl : L'[j]?.getD 0 < B := hD.out.ok.get j
      have hst : Divided L (L'.set j (quo2 c (L'[j]?.getD 0) d)) n j d (rem2 c (L'[j]?.getD 0) d) := by
        refine Divided.step ?_ (by omega) hn
        have := hD.out
        rw [show n - k = j + 1 from by omega] at this
        exact this
      have HS := Lib.hid hst
      have HJ := Lib.hid hj
      have HLn := Lib.hid hlen
      clear hst hD hj hlen
      generalize hlg : L'[j]?.getD 0 = l at *
      clear hlg
      go_wp2_with (go_at_call 170; refine (div64_all c l d hcd hl hdB _).mono ?_; rintro e w' ⟨rfl, q, rfl⟩)
      go_roundw
      case rel =>
        refine ⟨k + 1, _, _, by omega, by go_num, rfl, ?_, hB.out.set j _ (by rw [HLn.out]; omega), ((hO.out.trans ((Only.refl b wr).drewN q)).set j _)⟩
        rw [show n - (k + 1) = j from by have := HJ.out; omega]
        exact HS.out
      case measure => simp [intOf]; omega
    · obtain rfl : k = n := by omega
      go_wp2_with fail
      go_ret
      refine ⟨c, L', rfl, hO.out, hB.out, ?_⟩
      have := hD.out
      rw [Nat.sub_self] at this
      exact this
open Go Go.RowKit Go.Proofs Lim
def OverPost (w : World) (m n : Nat) (e : Ending) (w' : World) : Prop :=
  ∃ q r, e = .returned (.tuple #[q, r]) ∧ IsNat w' q (m / n) ∧ IsNat w' r (m % n) ∧ Below w.heap.size w w'
theorem IsNat.zero (w : World) : IsNat w (.slice none 0 0) 0 := ⟨[], Sl.nil w, fun h => absurd rfl h, rfl⟩
theorem over_less (v1 v2 : Value) (m n : Nat) (w : World) (h1 : IsNat w v1 m) (h2 : IsNat w v2 n) (hlt : m < n) :
    Calls Tryz.prog 136 #[v1, v2] w (OverPost w m n) := by
  have hc := compare_any v1 v2 m n w h1 h2
  rw [show cmpNat m n = -1 from if_pos hlt] at hc
  have HC := Lib.hid hc
  have H1 := Lib.hid h1
  clear hc h1 h2
  obtain ⟨xs, ⟨⟨xa, xc, rfl, _⟩, _⟩, _⟩ := H1.out
  go_enter Tryz.func136, Tryz.ntmps136
  go_wp2_with fail
  refine HC.out.mono ?_
  rintro e w' ⟨rfl, k, rfl⟩
  go_wp2_with fail
  go_ret2
  refine ⟨.slice none 0 0, .slice xa xs.length xc, rfl, ?_, ?_, bdrewN (Below.refl _ _)⟩
  · rw [Nat.div_eq_of_lt hlt]; exact IsNat.zero _
  · rw [Nat.mod_eq_of_lt hlt]; exact H1.out.below (B := w.heap.size) (bdrewN (Below.refl _ _)) (Nat.le_refl _)
theorem over_word (v1 v2 : Value) (m n k : Nat) (w : World) (h1 : IsNat w v1 m) (h2 : IsNat w v2 n) (hle : n ≤ m) (hn : 0 < n) (hnB : n < B) (hm : m < B ^ k) (hk : (k : Int) ≤ 1073741824) :
    Calls Tryz.prog 136 #[v1, v2] w (OverPost w m n) := by
  have hc := compare_any v1 v2 m n w h1 h2
  have hcmp : cmpNat m n = 0 ∨ cmpNat m n = 1 := by
    unfold cmpNat
    rw [if_neg (by omega)]
    split
    · exact .inr rfl
    · exact .inl rfl
  have hcb : (0 : Int) ≤ cmpNat m n := by rcases hcmp with h | h <;> rw [h] <;> omega
  generalize cmpNat m n = cm at *
  clear hcmp
  have HC := Lib.hid hc
  clear hc
  obtain ⟨xs, s1, t1, e1⟩ := h1
  obtain ⟨ys, s2, t2, e2⟩ := h2
  have lx := IsNat.len t1 e1 hm
  have ly : ys.length = 1 := by
    have l1 : ys.length ≤ 1 := IsNat.len t2 e2 (by rw [Nat.pow_one]; exact hnB)
    rcases ys with _ | ⟨y, ys⟩
    · simp [val] at e2; omega
    · simp at l1 ⊢; exact l1
  obtain ⟨y, rfl⟩ : ∃ y, ys = [y] := by
    rcases ys with _ | ⟨y, _ | ⟨z, ys⟩⟩
    · simp at ly
    · exact ⟨y, rfl⟩
    · simp at ly
  obtain rfl : y = n := by simpa [val] using e2
  have hx1 : 0 < xs.length := by
    rcases xs with _ | ⟨x, xs⟩
    · simp [val] at e1; omega
    · simp
  obtain ⟨⟨xa, xc, rfl, hc1, hc2, hr1⟩, ok1⟩ := s1
  obtain ⟨⟨ya, yc, rfl, hd1, hd2, hr2⟩, ok2⟩ := s2
  obtain ⟨xb, xo, rfl, rowx⟩ := hr1 hx1
  obtain ⟨yb, yo, rfl, rowy⟩ := hr2 (by simp)
  have cy : w.cell? ⟨yb, yo, none⟩ = some (u y) := rowy 0 (by simp)
  have hyb := rowy.lt (by simp)
  have rowx' : ∀ j, j < xs.length → w.cell? ((⟨xb, xo, none⟩ : Addr).add j) = some (u (xs[j]?.getD 0)) := fun j hj => by rw [Addr.add_lit]; exact rowx j hj
  have HR1 := Lib.hid rowx'
  have HO1 := Lib.hid ok1
  have HE1 := Lib.hid e1
  have HY := Lib.hid cy
  clear rowx rowx' rowy hr1 hr2 ok1 ok2 e1 e2 t1 t2 hm ly cy
  simp only [List.length_singleton] at *
  go_enter Tryz.func136, Tryz.ntmps136
  go_wp2_with fail
  refine HC.out.mono ?_
  rintro e w' ⟨rfl, q, rfl⟩
  go_wp2_with fail
  refine (clone_any _ xs xc (w.drewN q) (by omega) HR1.out).mono ?_
  rintro e w1 ⟨b, cap, rfl, hb, hB1, hcap1, hcap2, hbel⟩
  have cy1 : w1.cell? ⟨yb, yo, none⟩ = some (u y) := (hbel.cell (p := ⟨yb, yo, none⟩) hyb).trans HY.out
  have HB1 := Lib.hid hB1
  have HBel := Lib.hid hbel
  clear hB1 hbel
  go_wp2_with fail
  refine (divideByWord_any b xs.length cap xs y w1 HB1.out (Nat.le_refl _) (by omega) hn hnB HO1.out).mono ?_
  rintro e w2 ⟨r, L', rfl, hO2, hB2, hD⟩
  have hlen : L'.length = xs.length := hD.len
  have hsum := hD.sum
  rw [List.drop_zero, List.drop_zero, List.take_length, ← hlen, List.take_length, HE1.out] at hsum
  have hr := hD.rest
  have hq : val L' = m / y := by
    rw [hsum, Nat.mul_comm, Nat.mul_add_div hn, Nat.div_eq_of_lt hr, Nat.add_zero]
  have hr' : r = m % y := by
    rw [hsum, Nat.mul_comm, Nat.mul_add_mod, Nat.mod_eq_of_lt hr]
  have hs := Sl.of_blk hB2 hD.ok 0 xs.length cap (by omega) hcap1 hcap2
  rw [List.drop_zero, ← hlen, List.take_length, hlen] at hs
  have hb2 : Below w.heap.size w w2 := (bdrewN (Below.refl _ _)).trans (HBel.out.trans (hO2.below hb))
  have HS := Lib.hid hs
  have HB2 := Lib.hid hb2
  have HQ := Lib.hid hq
  have HR := Lib.hid hr'
  have HL := Lib.hid hlen
  clear hs hb2 hq hr' hsum hlen hB2 hO2 hD
  go_wp2_with fail
  refine (trim_any L' _ _ HS.out (by rw [HL.out]; omega)).mono ?_
  rintro e w4 ⟨v, rfl, hnat, rfl⟩
  rw [HQ.out] at hnat
  have HN := Lib.hid hnat
  clear hnat
  go_wp2_with fail
  refine (word_any r w2 (by omega)).mono ?_
  rintro e w5 ⟨vr, rfl, hnr, hb5⟩
  rw [HR.out] at hnr
  have HN2 := Lib.hid hnr
  have HB5 := Lib.hid hb5
  clear hnr hb5
  go_wp2_with fail
  go_ret2
  exact ⟨v, vr, rfl, HN.out.below HB5.out (Nat.le_refl _), HN2.out, HB2.out.trans (HB5.out.mono HB2.out.size)⟩
theorem over_long (v1 v2 : Value) (m n k : Nat) (w : World) (h1 : IsNat w v1 m) (h2 : IsNat w v2 n) (hle : n ≤ m) (hnB : B ≤ n) (hm : m < B ^ k) (hk : (k : Int) ≤ 1073741824) :
    Calls Tryz.prog 136 #[v1, v2] w (OverPost w m n) := by
  have hc := compare_any v1 v2 m n w h1 h2
  have hcmp : cmpNat m n = 0 ∨ cmpNat m n = 1 := by
    unfold cmpNat
    rw [if_neg (by omega)]
    split
    · exact .inr rfl
    · exact .inl rfl
  have hcb : (0 : Int) ≤ cmpNat m n := by rcases hcmp with h | h <;> rw [h] <;> omega
  generalize cmpNat m n = cm at *
  clear hcmp
  have HC := Lib.hid hc
  clear hc
  obtain ⟨xs, s1, t1, e1⟩ := h1
  obtain ⟨ys, s2, t2, e2⟩ := h2
  have lx := IsNat.len t1 e1 hm
  have lxy : ys.length ≤ xs.length := length_le_of_val_le t2 s1.ok (by omega)
  have ly : 2 ≤ ys.length := by
    rcases Nat.lt_or_ge ys.length 2 with h | h
    · exfalso
      have h3 := val_lt s2.ok
      have h4 : B ^ ys.length ≤ B ^ 1 := Nat.pow_le_pow_right B_pos (by omega)
      rw [Nat.pow_one] at h4
      omega
    · exact h
  obtain ⟨j, hj⟩ : ∃ j, ys.length = j + 1 := ⟨ys.length - 1, by omega⟩
  have htop : 0 < ys[j]?.getD 0 := by
    have hne : ys ≠ [] := by intro h; subst h; simp at ly
    have := t2 hne
    rw [List.getLast_eq_getElem hne] at this
    rw [List.getElem?_eq_getElem (by omega)]
    simp only [Option.getD_some]
    have e : ys.length - 1 = j := by omega
    simp only [e] at this
    omega
  have htB := s2.ok.get j
  obtain ⟨z1, z2, z3⟩ := lz_spec htop htB
  have S1 := Lib.hid s1
  have S2 := Lib.hid s2
  have HE1 := Lib.hid e1
  have HE2 := Lib.hid e2
  have HZ2 := Lib.hid z2
  have HZ3 := Lib.hid z3
  obtain ⟨⟨xa, xc, rfl, hc1, hc2, hr1⟩, ok1⟩ := s1
  obtain ⟨⟨ya, yc, rfl, hd1, hd2, hr2⟩, ok2⟩ := s2
  obtain ⟨yb, yo, rfl, rowy⟩ := hr2 (by omega)
  have cy : w.cell? ⟨yb, yo + j, none⟩ = some (u (ys[j]?.getD 0)) := rowy j (by omega)
  have HO1 := Lib.hid ok1
  have HO2 := Lib.hid ok2
  have hne1 : (((ys.length : Nat) : Int) == 1) = false := by rw [beq_eq_false_iff_ne]; omega
  have hlj : ((ys.length : Nat) : Int) - 1 = (j : Int) := by omega
  have hjl : (j : Int) < ((ys.length : Nat) : Int) := by omega
  have HJ := Lib.hid hj
  generalize htg : ys[j]?.getD 0 = top at *
  have HTG := Lib.hid htg
  unfold maxLen at hc2 hd2
  clear rowy hr1 hr2 ok1 ok2 e1 e2 t1 t2 hm z2 z3 hj htg
  go_enter Tryz.func136, Tryz.ntmps136
  go_wp2_with fail
  refine HC.out.mono ?_
  rintro e w' ⟨rfl, q, rfl⟩
  go_wp2_with fail
  refine (lz_any top htB _).mono ?_
  rintro e w' ⟨rfl, rfl⟩
  go_wp2_with fail
  refine (shiftUp_any _ ys (lz top) (w.drewN q) (S2.out.below (bdrewN (Below.refl w.heap.size w)) (Nat.le_refl _)) z1 (by omega)).mono ?_
  rintro e w1 ⟨b1, L1, rfl, hb1, hB1, hl1, hok1, hv1, hbel1⟩
  go_wp2_with fail
  have hsl1 := Sl.of_blk hB1 hok1 0 (ys.length + 1) (ys.length + 1) (by omega) (Nat.le_refl _) (by unfold maxLen; omega)
  rw [List.drop_zero, ← hl1, List.take_length, hl1] at hsl1
  have hbw1 : Below w.heap.size w w1 := (bdrewN (Below.refl _ _)).trans hbel1
  have HS1 := Lib.hid hsl1
  have HBW1 := Lib.hid hbw1
  have HL1 := Lib.hid hl1
  have HV1 := Lib.hid hv1
  clear hsl1 hbw1 hl1 hv1 hbel1 hB1 hok1 hb1
  refine (trim_any L1 _ _ HS1.out (by rw [HL1.out]; omega)).mono ?_
  rintro e w' ⟨vD, rfl, hD, rfl⟩
  rw [HV1.out] at hD
  obtain ⟨D, sD, tD, eD⟩ := hD
  obtain ⟨nl1, nl2, nl3⟩ := norm_len tD sD.ok eD S2.out.ok j HJ.out (by rw [HTG.out]; exact HZ2.out) (by rw [HTG.out]; exact HZ3.out)
  have hDy : D.length = ys.length := by rw [nl1, HJ.out]
  rw [← nl1] at nl3
  obtain ⟨⟨da, dc, rfl, hdc1, hdc2, hrD⟩, okD⟩ := sD
  obtain ⟨db, dof, rfl, rowD⟩ := hrD (by omega)
  have hdb := rowD.lt (by omega)
  have hD2 : 2 ≤ D.length := by omega
  have hDmax : (D.length : Int) ≤ 1073741824 := by omega
  unfold maxLen at hdc2
  have hDx : D.length ≤ xs.length := by omega
  have HDy := Lib.hid hDy
  have HeD := Lib.hid eD
  have HokD := Lib.hid okD
  have Hrow := Lib.hid rowD
  have Hn2 := Lib.hid nl2
  have Hn3 := Lib.hid nl3
  have Hnl1 := Lib.hid nl1
  clear hDy eD okD rowD nl2 nl3 nl1 tD hrD
  go_wp2_with fail
  refine (shiftUp_any _ xs (lz top) w1 (S1.out.below HBW1.out (Nat.le_refl _)) z1 (by omega)).mono ?_
  rintro e w2 ⟨b2, R, rfl, hb2, hB2, hl2, hok2, hv2, hbel2⟩
  have HB2 := Lib.hid hB2
  have HL2 := Lib.hid hl2
  have HOk2 := Lib.hid hok2
  have HV2 := Lib.hid hv2
  have HBel2 := Lib.hid hbel2
  have HRow2 := Lib.hid (Hrow.out.below hbel2 hdb)
  have hsz2 := hbel2.size
  have hb2lt := hB2.lt
  clear hB2 hl2 hok2 hv2 hbel2
  obtain ⟨lc, hlc⟩ : ∃ lc, lc + D.length = xs.length + 1 := ⟨xs.length + 1 - D.length, by omega⟩
  have HLc := Lib.hid hlc
  have hlcmax : (lc : Int) ≤ 1073741825 := by omega
  have hlc1 : 1 ≤ lc := by omega
  clear hlc
  obtain ⟨i0, hi, hz0, hz1, hz2⟩ := info_parts info_u64
  go_wp2_with (at_make; refine wpList_make_full _ rfl _ _ 109 rfl w2.heap.size 23 i0 (.int .u64 0) 1 Tryz.underlying109 hi hz0 hz1 _ _ _ _ lc rfl rfl (by have := HLc.out; omega) (by have := HLc.out; omega) ?qb2 ?qb3 ?qb4 ?_)
  case qb2 => rw [hz2]; omega
  case qb3 => unfold maxLen; omega
  case qb4 => exact Nat.le_refl _
  intro w3 hown hgrow
  obtain ⟨hB3, hbel3⟩ := made_blk hown hgrow
  clear hown hgrow hi hz0 hz1 hz2
  have HB3 := Lib.hid hB3
  have HB23 := Lib.hid (HB2.out.below hbel3 hb2lt)
  have HRow3 := Lib.hid (HRow2.out.below hbel3 (by omega))
  have HBel3 := Lib.hid (HBW1.out.trans (HBel2.out.mono HBW1.out.size |>.trans (hbel3.mono (Nat.le_trans HBW1.out.size hsz2))))
  clear hB3 hbel3
  have hwsz : w.heap.size ≤ w1.heap.size := HBW1.out.size
  have hvp : 0 < val D := by
    have := Hn3.out
    have h2 : 0 < B ^ D.length := Nat.pow_pos B_pos
    omega
  have hbne : b2 ≠ w2.heap.size := by omega
  have hdne2 : db ≠ b2 := by omega
  have hdne3 : db ≠ w2.heap.size := by omega
  go_wp2_with fail
  go_loopw [55] (fun i wr => ∃ k R QL, k ≤ lc ∧ i = .int .i64 (k : Int) ∧ Hid (Blk wr b2 R) ∧ Hid (Blk wr w2.heap.size QL) ∧ Hid (Long (val xs * 2 ^ lz top) (val D) R QL (xs.length + 1) lc (lc - k)) ∧ Hid (Row wr db dof D) ∧ Hid (Below w.heap.size w wr)) (fun i _ => lc - (intOf i).toNat)
  case atStart =>
    exact ⟨0, R, _, Nat.zero_le _, rfl, HB23.out, HB3.out, by rw [Nat.sub_zero]; exact Long.start HV2.out HOk2.out HL2.out HO1.out rfl z1 Hn3.out HLc.out, HRow3.out, HBel3.out⟩
  case round =>
    clear HB2 HL2 HOk2 HV2 HB3 HB23 HRow2 HRow3 HBel3 HBel2
    obtain ⟨k, R, QL, hk, rfl, hBR, hBQ, hLg, hRD, hBW⟩ := hrel
    by_cases hlt : k < lc
    · obtain ⟨a, ha⟩ : ∃ a, a + 1 + k = lc := ⟨lc - 1 - k, by omega⟩
      have hLg' : Long (val xs * 2 ^ lz top) (val D) R QL (xs.length + 1) lc (a + 1) := by
        have := hLg.out
        rw [show lc - k = a + 1 from by omega] at this
        exact this
      have hanr : a + (D.length + 1) ≤ xs.length + 1 := by have := HLc.out; omega
      have HNext := Lib.hid (nextLimb_any b2 a (xs.length + 1 - a) D.length (D.length + 1) db dof dc R D wr rfl hD2 rfl hBR.out (by rw [hLg'.lenR]; exact hanr) hRD.out hdne2 hLg'.okR HokD.out
        (by rw [Hnl1.out, Nat.add_sub_cancel]; exact Hn2.out) (hLg'.window_lt hanr) (by omega))
      have hix : ((lc : Nat) : Int) - 1 - (k : Int) = (a : Int) := by omega
      have hac : (a : Int) < (lc : Int) := by omega
      have ha0 : (0 : Int) ≤ (a : Int) := by omega
      obtain ⟨top2, htop2⟩ : ∃ top2, top2 = a + D.length + 1 := ⟨_, rfl⟩
      have HA := Lib.hid ha
      have HLg := Lib.hid hLg'
      have HAnr := Lib.hid hanr
      have Htop2 := Lib.hid htop2
      clear ha hLg' hLg hanr htop2
      have hq1 : (a : Int) + ((D.length : Nat) : Int) + 1 ≤ ((xs.length : Nat) : Int) + 1 := by have := HAnr.out; omega
      have hq2 : (a : Int) ≤ (a : Int) + ((D.length : Nat) : Int) + 1 := by omega
      have hanx : ¬ xs.length + 1 = a := by have := HAnr.out; omega
      go_wp2_with fail
      rw [show a + D.length + 1 - a = D.length + 1 from by omega]
      refine HNext.out.mono ?_
      rintro e w5 ⟨R', rfl, hO5, hB5, hT5⟩
      have hBQ5 : Blk w5 w2.heap.size QL := hBQ.out.only hO5 (by omega)
      have hfz : w5.frozen? ⟨w2.heap.size, a, none⟩ = false := hBQ5.frozen _
      have hcl : w5.cell? ⟨w2.heap.size, a, none⟩ = some (u (QL[a]?.getD 0)) := hBQ5.cell a (by rw [HLg.out.lenQ]; omega)
      have hqB : val ((R.drop a).take (D.length + 1)) / val D < B := Nat.div_lt_of_lt_mul (HLg.out.window_lt HAnr.out)
      have hstep := HLg.out.step HAnr.out (by have := HA.out; omega) hvp (val_lt HokD.out) hT5 hqB
      have hBS := hBQ5.set a (val ((R.drop a).take (D.length + 1)) / val D) (by rw [HLg.out.lenQ]; have := HA.out; omega)
      have hR5 : Row w5 db dof D := hO5.row hdne2 hRD.out
      have hB5' : Blk (w5.setCell ⟨w2.heap.size, a, none⟩ (u (val ((R.drop a).take (D.length + 1)) / val D))) b2 R' := hB5.only ((Only.refl w2.heap.size w5).set a _) hbne
      have hR5' : Row (w5.setCell ⟨w2.heap.size, a, none⟩ (u (val ((R.drop a).take (D.length + 1)) / val D))) db dof D := ((Only.refl w2.heap.size w5).set a _).row hdne3 hR5
      have hBW5 : Below w.heap.size w (w5.setCell ⟨w2.heap.size, a, none⟩ (u (val ((R.drop a).take (D.length + 1)) / val D))) :=
        (hBW.out.trans (hO5.below (by omega))).trans (((Only.refl w2.heap.size w5).set a _).below (by omega))
      generalize val ((R.drop a).take (D.length + 1)) / val D = qd at *
      generalize QL[a]?.getD 0 = ql at *
      have G1 := Lib.hid hstep
      have G2 := Lib.hid hBS
      have G3 := Lib.hid hB5'
      have G4 := Lib.hid hR5'
      have G5 := Lib.hid hBW5
      clear hstep hBS hB5' hR5' hBW5 hBQ5 hR5 hO5 hB5 hT5 hqB
      go_wp2_with fail
      go_roundw
      case rel =>
        refine ⟨k + 1, R', _, by omega, by go_num, G3.out, G2.out, ?_, G4.out, G5.out⟩
        rw [show lc - (k + 1) = a from by have := HA.out; omega]
        exact G1.out
      case measure => simp [intOf]; omega
    · obtain rfl : k = lc := by omega
      have hL := hLg.out
      rw [Nat.sub_self, HeD.out] at hL
      obtain ⟨hqv, hrv⟩ := hL.done rfl (Nat.pow_pos (by omega)) (by rw [HE2.out]; have := B_pos; omega)
      rw [HE1.out, HE2.out] at hqv hrv
      have hsQ := Sl.of_blk hBQ.out hL.okQ 0 k k (by rw [hL.lenQ]; omega) (Nat.le_refl _) (by unfold maxLen; omega)
      have hQl : (QL.drop 0).take k = QL := by rw [List.drop_zero, List.take_of_length_le (by rw [hL.lenQ]; omega)]
      rw [hQl] at hsQ
      have hsR := Sl.of_blk hBR.out hL.okR 0 (xs.length + 1) (xs.length + 1) (by rw [hL.lenR]; omega) (Nat.le_refl _) (by unfold maxLen; omega)
      have hRl : (R.drop 0).take (xs.length + 1) = R := by rw [List.drop_zero, List.take_of_length_le (by rw [hL.lenR]; omega)]
      rw [hRl] at hsR
      have hlQ := hL.lenQ
      have hlR := hL.lenR
      have GQ := Lib.hid hsQ
      have GR := Lib.hid hsR
      have Gq := Lib.hid hqv
      have Gr := Lib.hid hrv
      have GlQ := Lib.hid hlQ
      have GlR := Lib.hid hlR
      clear hL hqv hrv hsQ hsR hQl hRl hlQ hlR
      go_wp2_with fail
      refine (trim_any QL _ _ GQ.out (by rw [GlQ.out]; omega)).mono ?_
      rintro e w6 ⟨vq, rfl, hnq, rfl⟩
      rw [Gq.out] at hnq
      have HNQ := Lib.hid hnq
      clear hnq
      go_wp2_with fail
      have hcd := shiftDown_any (.slice (some ⟨b2, 0, none⟩) (xs.length + 1) (xs.length + 1)) R (lz top) wr GR.out z1 (by rw [GlR.out]; omega)
      rw [GlR.out, Gr.out] at hcd
      refine hcd.mono ?_
      rintro e w7 ⟨b7, L7, rfl, hb7, hB7, hl7, hok7, hv7, hbel7⟩
      have hs7 := Sl.of_blk hB7 hok7 0 (xs.length + 1) (xs.length + 1) (by omega) (Nat.le_refl _) (by unfold maxLen; omega)
      rw [List.drop_zero, ← hl7, List.take_length, hl7] at hs7
      have G7 := Lib.hid hs7
      have GV7 := Lib.hid hv7
      have GL7 := Lib.hid hl7
      have GB7 := Lib.hid hbel7
      clear hs7 hv7 hl7 hbel7 hB7 hok7 hcd
      go_wp2_with fail
      refine (trim_any L7 _ _ G7.out (by rw [GL7.out]; omega)).mono ?_
      rintro e w8 ⟨vr, rfl, hnr, rfl⟩
      rw [GV7.out] at hnr
      have HNR := Lib.hid hnr
      clear hnr
      go_wp2_with fail
      go_ret2
      exact ⟨vq, vr, rfl, HNQ.out.below GB7.out (Nat.le_refl _), HNR.out, hBW.out.trans (GB7.out.mono hBW.out.size)⟩
theorem over_any (v1 v2 : Value) (m n k : Nat) (w : World) (h1 : IsNat w v1 m) (h2 : IsNat w v2 n) (hn : 0 < n) (hm : m < B ^ k) (hk : (k : Int) ≤ 1073741824) :
    Calls Tryz.prog 136 #[v1, v2] w (OverPost w m n) := by
  rcases Nat.lt_or_ge m n with h | h
  · exact over_less v1 v2 m n w h1 h2 h
  · rcases Nat.lt_or_ge n B with hB | hB
    · exact over_word v1 v2 m n k w h1 h2 h hn hB hm hk
    · exact over_long v1 v2 m n k w h1 h2 h hB hm hk
open Go Go.RowKit Go.Proofs Lim
def tz (x : Nat) : Nat := Lib.ctz 64 x
theorem tz_spec {x : Nat} (h0 : 0 < x) (hx : x < B) : (∃ m, x = 2 ^ tz x * (2 * m + 1)) ∧ tz x < 64 := by
  obtain ⟨m, hm, hk⟩ := Lib.ctzFrom_spec 64 x h0 (by rw [← B_eq]; exact hx)
  have e : tz x = Lib.ctzFrom 64 x := by unfold tz Lib.ctz; rw [if_neg (by omega)]
  rw [e]
  exact ⟨⟨m, hm⟩, hk⟩
theorem pow_dvd_iff {x a m k : Nat} (h : x = 2 ^ a * (2 * m + 1)) : 2 ^ k ∣ x ↔ k ≤ a := by
  constructor
  · intro hd
    rcases Nat.lt_or_ge a k with hlt | hge
    · exfalso
      have h1 : 2 ^ (a + 1) ∣ 2 ^ k := Nat.pow_dvd_pow 2 hlt
      have h2 : 2 ^ (a + 1) ∣ x := Nat.dvd_trans h1 hd
      rw [h, Nat.pow_succ] at h2
      have h3 : 2 ∣ 2 * m + 1 := Nat.dvd_of_mul_dvd_mul_left (Nat.pow_pos (by omega)) h2
      omega
    · exact hge
  · intro hle
    rw [h]
    exact Nat.dvd_mul_right_of_dvd (Nat.pow_dvd_pow 2 hle) _
theorem pow_dvd_or (k x y : Nat) : 2 ^ k ∣ x ||| y ↔ 2 ^ k ∣ x ∧ 2 ^ k ∣ y := by
  rw [Nat.dvd_iff_mod_eq_zero, Nat.dvd_iff_mod_eq_zero, Nat.dvd_iff_mod_eq_zero, Nat.or_mod_two_pow, Nat.or_eq_zero_iff]
theorem or_lt {x y : Nat} (hx : x < B) (hy : y < B) : x ||| y < B := by
  rw [B_eq] at *
  exact Nat.or_lt_two_pow hx hy
theorem tz_or {x y : Nat} (h0 : 0 < x) (hx : x < B) (k0 : 0 < y) (hy : y < B) : tz (x ||| y) = min (tz x) (tz y) := by
  obtain ⟨⟨m, hm⟩, _⟩ := tz_spec h0 hx
  obtain ⟨⟨n, hn⟩, _⟩ := tz_spec k0 hy
  have hor0 : 0 < x ||| y := by
    rcases Nat.eq_zero_or_pos (x ||| y) with h | h
    · rw [Nat.or_eq_zero_iff] at h; omega
    · exact h
  obtain ⟨⟨p, hp⟩, _⟩ := tz_spec hor0 (or_lt hx hy)
  have h1 := (pow_dvd_or (tz (x ||| y)) x y).1 ((pow_dvd_iff hp).2 (Nat.le_refl _))
  have h2 := (pow_dvd_iff hm).1 h1.1
  have h3 := (pow_dvd_iff hn).1 h1.2
  have h4 := (pow_dvd_iff hp).1 ((pow_dvd_or (min (tz x) (tz y)) x y).2 ⟨(pow_dvd_iff hm).2 (Nat.min_le_left _ _), (pow_dvd_iff hn).2 (Nat.min_le_right _ _)⟩)
  omega
theorem gcd_odd (m b z : Nat) : Nat.gcd (2 * m + 1) (2 ^ b * z) = Nat.gcd (2 * m + 1) z := by
  have h : Nat.Coprime (2 ^ b) (2 * m + 1) := by
    refine Nat.Coprime.pow_left b ?_
    show Nat.gcd 2 (2 * m + 1) = 1
    rw [Nat.gcd_rec, Nat.mul_add_mod]
    rfl
  exact Nat.Coprime.gcd_mul_left_cancel_right z h
theorem gcd_split (a b m n : Nat) : Nat.gcd (2 ^ a * (2 * m + 1)) (2 ^ b * (2 * n + 1)) = Nat.gcd (2 * m + 1) (2 * n + 1) * 2 ^ min a b := by
  rcases Nat.le_total a b with h | h
  · rw [Nat.min_eq_left h, show 2 ^ b = 2 ^ a * 2 ^ (b - a) from by rw [← Nat.pow_add]; congr 1; omega, Nat.mul_assoc, Nat.gcd_mul_left, gcd_odd, Nat.mul_comm]
  · rw [Nat.min_eq_right h, show 2 ^ a = 2 ^ b * 2 ^ (a - b) from by rw [← Nat.pow_add]; congr 1; omega, Nat.mul_assoc, Nat.gcd_mul_left, Nat.gcd_comm, gcd_odd, Nat.gcd_comm, Nat.mul_comm]
structure Gr (w : World) : Prop where
  size : 8 ≤ w.heap.size
  tab : TabAt 1 Lib.deBruijn64tab w
  maxLen : ∃ m, w.cell? ⟨0, 0, none⟩ = some (.int .i64 m)
  syn : ∃ tp p, w.cell? ⟨2, 0, none⟩ = some (.iface tp p)
  rng : ∃ tp p, w.cell? ⟨3, 0, none⟩ = some (.iface tp p)
theorem Gr.below {w w' : World} {K : Nat} (h : Gr w) (hb : Below K w w') (hK : 8 ≤ K) : Gr w' := by
  obtain ⟨h1, h2, ⟨m, h3⟩, ⟨t1, p1, h4⟩, ⟨t2, p2, h5⟩⟩ := h
  refine ⟨Nat.le_trans h1 hb.size, fun j hj => ?_, ⟨m, ?_⟩, ⟨t1, p1, ?_⟩, ⟨t2, p2, ?_⟩⟩
  · rw [hb.cell (p := ⟨_, j, none⟩) (Nat.lt_of_lt_of_le (show (1 : Nat) < 8 by decide) hK)]; exact h2 j hj
  · rw [hb.cell (p := ⟨_, 0, none⟩) (Nat.lt_of_lt_of_le (show (0 : Nat) < 8 by decide) hK)]; exact h3
  · rw [hb.cell (p := ⟨_, 0, none⟩) (Nat.lt_of_lt_of_le (show (2 : Nat) < 8 by decide) hK)]; exact h4
  · rw [hb.cell (p := ⟨_, 0, none⟩) (Nat.lt_of_lt_of_le (show (3 : Nat) < 8 by decide) hK)]; exact h5
theorem tz_any (x : Nat) (hx : x < B) (w : World) (hG : Gr w) : Calls Tryz.prog 148 #[u x] w fun e w' => e = .returned (.int .i64 (tz x : Nat)) ∧ w = w' :=
  (Tryz.bits_TrailingZeros64 x hx w (fun _ => hG.tab)).mono fun _ _ ⟨h, h'⟩ => ⟨h, h'.symm⟩
theorem or_u64 {x y : Nat} (hx : x < B) (hy : y < B) : bits .or .u64 (x : Int) (y : Int) = ((x ||| y : Nat) : Int) :=
  bits_or_u64_nat _ _ (by unfold B at hx; omega) (by unfold B at hy; omega)
def od (x : Nat) : Nat := x / 2 ^ tz x
theorem od_spec {x : Nat} (h0 : 0 < x) (hx : x < B) : ∃ m, od x = 2 * m + 1 ∧ x = 2 ^ tz x * (2 * m + 1) := by
  obtain ⟨⟨m, hm⟩, _⟩ := tz_spec h0 hx
  refine ⟨m, ?_, hm⟩
  unfold od
  have hp : 0 < 2 ^ tz x := Nat.pow_pos (by omega)
  conv => lhs; rw [hm]
  generalize hk : tz x = k at *
  have : tz (2 ^ k * (2 * m + 1)) = k := by rw [← hm, hk]
  rw [this, Nat.mul_div_cancel_left _ hp]
theorem od_le (x : Nat) : od x ≤ x := Nat.div_le_self _ _
theorem gcd_od {x y : Nat} (h0 : 0 < x) (hx : x < B) (k0 : 0 < y) (hy : y < B) : Nat.gcd x y = Nat.gcd (od x) y * 2 ^ tz (x ||| y) := by
  obtain ⟨m, hm, ex⟩ := od_spec h0 hx
  obtain ⟨n, hn, ey⟩ := od_spec k0 hy
  rw [tz_or h0 hx k0 hy, hm]
  generalize tz x = a at *
  generalize tz y = b at *
  conv => lhs; rw [ex, ey]
  rw [gcd_split]
  conv => rhs; rw [ey, gcd_odd]
structure Odd (x y G : Nat) : Prop where
  odd : ∃ m, x = 2 * m + 1
  gcd : Nat.gcd x y = G
  lx : x < B
  ly : y < B
theorem Odd.step {x y G : Nat} (h : Odd x y G) (hy : 0 < y) : od y < B ∧ 0 < od y ∧ (x ≤ od y → Odd x (od y - x) G) ∧ (od y < x → Odd (od y) (x - od y) G) := by
  obtain ⟨⟨m, hm⟩, hg, lx, ly⟩ := h
  obtain ⟨n, hn, ey⟩ := od_spec hy ly
  have hle := od_le y
  have hgo : Nat.gcd x (od y) = G := by rw [← hg, hm, hn]; conv => rhs; rw [ey, gcd_odd]
  refine ⟨by omega, by omega, fun h => ⟨⟨m, hm⟩, ?_, lx, by omega⟩, fun h => ⟨⟨n, hn⟩, ?_, by omega, by omega⟩⟩
  · rw [Nat.gcd_sub_self_right h]; exact hgo
  · rw [Nat.gcd_sub_self_right (by omega), Nat.gcd_comm]; exact hgo
theorem gcd_lt {x y : Nat} (hx : x < B) (hy : y < B) : Nat.gcd x y < B := by
  rcases Nat.eq_zero_or_pos x with h | h
  · subst h; rw [Nat.gcd_zero_left]; exact hy
  · exact Nat.lt_of_le_of_lt (Nat.gcd_le_left y h) hx
theorem commonWord_zero (x y : Nat) (hx : x < B) (hy : y < B) (w : World) (h : x = 0 ∨ y = 0) :
    Calls Tryz.prog 128 #[u x, u y] w fun e w' => e = .returned (u (Nat.gcd x y)) ∧ w = w' := by
  have e0 := or_u64 hx hy
  have e1 : x ||| y = Nat.gcd x y := by
    rcases h with h | h
    · subst h; simp
    · subst h; simp
  rw [e1] at e0
  generalize hg : Nat.gcd x y = g at *
  clear e1 hg
  by_cases h0 : x = 0
  · have hb : (((x : Nat) : Int) == 0) = true := by subst h0; rfl
    clear h h0
    go_enter Tryz.func128, Tryz.ntmps128
    go_wp2_with fail
    go_ret
    exact ⟨rfl, rfl⟩
  · have hb : (((x : Nat) : Int) == 0) = false := by rw [beq_eq_false_iff_ne]; omega
    have hb2 : (((y : Nat) : Int) == 0) = true := by rcases h with h | h; exact absurd h h0; subst h; rfl
    clear h h0
    go_enter Tryz.func128, Tryz.ntmps128
    go_wp2_with fail
    go_ret
    exact ⟨rfl, rfl⟩
theorem commonWord_pos (x y : Nat) (n1 : ¬ x = 1) (n2 : ¬ y = 1) (h0 : 0 < x) (hx : x < B) (k0 : 0 < y) (hy : y < B) (w : World) (hG : Gr w) :
    Calls Tryz.prog 128 #[u x, u y] w fun e w' => e = .returned (u (Nat.gcd x y)) ∧ w = w' := by
  have hb1 : (((x : Nat) : Int) == 0) = false := by rw [beq_eq_false_iff_ne]; omega
  have hb2 : (((y : Nat) : Int) == 0) = false := by rw [beq_eq_false_iff_ne]; omega
  have hb3 : (((x : Nat) : Int) == 1) = false := by rw [beq_eq_false_iff_ne]; omega
  have hb4 : (((y : Nat) : Int) == 1) = false := by rw [beq_eq_false_iff_ne]; omega
  clear n1 n2
  have e0 := or_u64 hx hy
  have hor := or_lt hx hy
  have hgo := gcd_od h0 hx k0 hy
  have hod := od_spec h0 hx
  have htl : tz (x ||| y) < 64 := (tz_spec (by
    rcases Nat.eq_zero_or_pos (x ||| y) with h | h
    · rw [Nat.or_eq_zero_iff] at h; omega
    · exact h) hor).2
  have htx : tz x < 64 := (tz_spec h0 hx).2
  have ex := div_pow x (tz x)
  rw [show x / 2 ^ tz x = od x from rfl] at ex
  have hgl : Nat.gcd x y < B := gcd_lt hx hy
  obtain ⟨G, hGd⟩ : ∃ G, G = Nat.gcd (od x) y := ⟨_, rfl⟩
  have hO : Odd (od x) y G := ⟨let ⟨m, h, _⟩ := hod; ⟨m, h⟩, hGd.symm, Nat.lt_of_le_of_lt (od_le x) hx, hy⟩
  rw [← hGd] at hgo
  generalize x ||| y = z at *
  have htl0 : (0 : Int) ≤ ((tz z : Nat) : Int) := by omega
  have htx0 : (0 : Int) ≤ ((tz x : Nat) : Int) := by omega
  have HO := Lib.hid hO
  have HG := Lib.hid hG
  have Hgo := Lib.hid hgo
  have Hgl := Lib.hid hgl
  have Hy := Lib.hid hy
  have Hx := Lib.hid hx
  have Hor := Lib.hid hor
  clear hO hG hgo hod hGd hgl
  generalize hgg : Nat.gcd x y = gg at *
  clear hgg
  go_enter Tryz.func128, Tryz.ntmps128
  go_wp2_with fail
  refine (tz_any z Hor.out w HG.out).mono ?_
  rintro e w' ⟨rfl, rfl⟩
  go_wp2_with fail
  refine (tz_any x Hx.out w HG.out).mono ?_
  rintro e w' ⟨rfl, rfl⟩
  go_wp2_with fail
  go_loop [0, 1] (fun s0 s1 => ∃ X Y : Nat, s0 = u X ∧ s1 = u Y ∧ Hid (Odd X Y G)) (fun s0 s1 => (intOf s0 + intOf s1).toNat)
  case atStart => exact ⟨od x, y, rfl, rfl, HO.out⟩
  case round =>
    clear HO
    obtain ⟨X, Y, rfl, rfl, hXY⟩ := hrel
    by_cases hY : Y = 0
    · have hb : (((Y : Nat) : Int) != 0) = false := by subst hY; rfl
      have hXG : X = G := by have := hXY.out.gcd; subst hY; rw [Nat.gcd_zero_right] at this; exact this
      have e3 : IntKind.u64.wrap ((X : Int) * 2 ^ tz z) = ((gg : Nat) : Int) := by
        rw [wrap_shl, hXG, ← Hgo.out, Nat.mod_eq_of_lt Hgl.out]
      clear hY hXG
      go_wp2_with fail
      go_ret
      exact ⟨rfl, rfl⟩
    · have hb : (((Y : Nat) : Int) != 0) = true := by rw [bne_iff_ne]; omega
      obtain ⟨s1, s2, s3, s4⟩ := hXY.out.step (by omega)
      have hYB : Y < B := hXY.out.ly
      have hX1 : 0 < X := by obtain ⟨m, hm⟩ := hXY.out.odd; omega
      have htY : tz Y < 64 := (tz_spec (by omega) hYB).2
      have htY0 : (0 : Int) ≤ ((tz Y : Nat) : Int) := by omega
      have eY := div_pow Y (tz Y)
      rw [show Y / 2 ^ tz Y = od Y from rfl] at eY
      have hole := od_le Y
      generalize hoy : od Y = oy at *
      have S3 := Lib.hid s3
      have S4 := Lib.hid s4
      have hXB := hXY.out.lx
      clear s3 s4 hoy hY
      by_cases hgt : oy < X
      · have ew : IntKind.u64.wrap ((X : Int) - (oy : Int)) = ((X - oy : Nat) : Int) := wrap_sub hXB (by omega)
        obtain ⟨dd, hdd⟩ : ∃ dd, dd = X - oy := ⟨_, rfl⟩
        rw [← hdd] at ew
        have HDD := Lib.hid hdd
        clear hdd
        go_wp2_with (go_at_call 148; refine (tz_any Y hYB w HG.out).mono ?_; rintro e w' ⟨rfl, rfl⟩)
        go_round
        case rel => exact ⟨oy, dd, rfl, rfl, by rw [HDD.out]; exact S4.out hgt⟩
        case measure => simp [intOf]; have := HDD.out; omega
      · have ew : IntKind.u64.wrap ((oy : Int) - (X : Int)) = ((oy - X : Nat) : Int) := wrap_sub s1 (by omega)
        obtain ⟨dd, hdd⟩ : ∃ dd, dd = oy - X := ⟨_, rfl⟩
        rw [← hdd] at ew
        have HDD := Lib.hid hdd
        clear hdd
        go_wp2_with (go_at_call 148; refine (tz_any Y hYB w HG.out).mono ?_; rintro e w' ⟨rfl, rfl⟩)
        go_round
        case rel => exact ⟨X, dd, rfl, rfl, by rw [HDD.out]; exact S3.out (by omega)⟩
        case measure => simp [intOf]; have := HDD.out; omega
theorem commonWord_one (x y : Nat) (h0 : 0 < x) (k0 : 0 < y) (h : x = 1 ∨ y = 1) (w : World) :
    Calls Tryz.prog 128 #[u x, u y] w fun e w' => e = .returned (u (Nat.gcd x y)) ∧ w = w' := by
  have e1 : Nat.gcd x y = 1 := by
    rcases h with h | h
    · subst h; simp
    · subst h; simp
  rw [e1]
  have hb1 : (((x : Nat) : Int) == 0) = false := by rw [beq_eq_false_iff_ne]; omega
  have hb2 : (((y : Nat) : Int) == 0) = false := by rw [beq_eq_false_iff_ne]; omega
  clear e1
  by_cases h1 : x = 1
  · have hb3 : (((x : Nat) : Int) == 1) = true := by subst h1; rfl
    clear h h1
    go_enter Tryz.func128, Tryz.ntmps128
    go_wp2_with fail
    go_ret
    exact ⟨rfl, rfl⟩
  · have h2 : y = 1 := by omega
    have hb3 : (((x : Nat) : Int) == 1) = false := by rw [beq_eq_false_iff_ne]; omega
    have hb4 : (((y : Nat) : Int) == 1) = true := by subst h2; rfl
    clear h h1 h2
    go_enter Tryz.func128, Tryz.ntmps128
    go_wp2_with fail
    go_ret
    exact ⟨rfl, rfl⟩
theorem commonWord_any (x y : Nat) (hx : x < B) (hy : y < B) (w : World) (hG : Gr w) :
    Calls Tryz.prog 128 #[u x, u y] w fun e w' => e = .returned (u (Nat.gcd x y)) ∧ w = w' := by
  rcases Nat.eq_zero_or_pos x with h | h
  · exact commonWord_zero x y hx hy w (.inl h)
  · rcases Nat.eq_zero_or_pos y with h' | h'
    · exact commonWord_zero x y hx hy w (.inr h')
    · by_cases n1 : x = 1
      · exact commonWord_one x y h h' (.inl n1) w
      · by_cases n2 : y = 1
        · exact commonWord_one x y h h' (.inr n2) w
        · exact commonWord_pos x y n1 n2 h hx h' hy w hG
open Go Go.RowKit Go.Proofs Lim
def ReducePost (w : World) (m n : Nat) (e : Ending) (w' : World) : Prop :=
  ∃ p q X Y, e = .returned (.tuple #[p, q]) ∧ IsNat w' p X ∧ IsNat w' q Y ∧ Nat.gcd X Y = Nat.gcd m n ∧ Y < n ∧ Y ≤ X ∧ X ≤ m ∧ Below w.heap.size w w'
theorem sizes {m n X Y a b c d : Nat} (hm : m = d * X + b * Y) (hn : n = c * X + a * Y) (hYX : Y < X) (hc : 1 ≤ c) (hd : 1 ≤ d) : Y < n ∧ X ≤ m ∧ X ≤ n := by
  have h1 : 1 * X ≤ d * X := Nat.mul_le_mul_right _ hd
  have h2 : 1 * X ≤ c * X := Nat.mul_le_mul_right _ hc
  omega
theorem euclid {m n A C X0 Y0 a b c d : Nat} {odd : Bool} (hL : Leads m n A C) (hS : Lim.Steps A C X0 Y0 a b c d odd) (hb : b ≠ 0 ∨ odd = true) :
    ∃ X Y, (if odd then X = b * n - a * m ∧ a * m ≤ b * n ∧ Y = c * m - d * n ∧ d * n ≤ c * m else X = a * m - b * n ∧ b * n ≤ a * m ∧ Y = d * n - c * m ∧ c * m ≤ d * n) ∧
      Nat.gcd X Y = Nat.gcd m n ∧ Y < n ∧ Y < X ∧ X ≤ m ∧ X ≤ n := by
  obtain ⟨K, x', y', hx', hy', rfl, rfl⟩ := hL.split
  cases odd
  · obtain ⟨X, Y, h1, h2, h3, h4, h5, h6, h7⟩ := hS.even (by simpa using hb) hx' hy'
    obtain ⟨s1, s2, s3⟩ := sizes h4 h5 h3 h6 h7
    refine ⟨X, Y, ?_, gcd_of_lin h4 h5 (.inl ⟨h1, h2⟩), s1, h3, s2, s3⟩
    simp only [Bool.false_eq_true, if_false]
    omega
  · obtain ⟨X, Y, h1, h2, h3, h4, h5, h6, h7⟩ := hS.odd hx' hy'
    obtain ⟨s1, s2, s3⟩ := sizes h4 h5 h3 h6 h7
    refine ⟨X, Y, ?_, gcd_of_lin h4 h5 (.inr ⟨h1, h2⟩), s1, h3, s2, s3⟩
    simp only [if_true]
    omega
theorem reduce_any (v1 v2 : Value) (m n k : Nat) (w : World) (h1 : IsNat w v1 m) (h2 : IsNat w v2 n) (hle : n ≤ m) (hnB : B ≤ n) (hm : m < B ^ k) (hk : (k : Int) ≤ 1073741824) :
    Calls Tryz.prog 144 #[v1, v2] w (ReducePost w m n) := by
  have HLd := Lib.hid (leading_any v1 v2 m n w h1 h2 hle (by omega))
  have H1 := Lib.hid h1
  have H2 := Lib.hid h2
  obtain ⟨xs, ⟨⟨xa, xc, rfl, _, _, _⟩, _⟩, _⟩ := h1
  obtain ⟨ys, ⟨⟨ya, yc, rfl, _, _, _⟩, _⟩, _⟩ := h2
  have hmB : B ≤ m := by omega
  go_enter Tryz.func144, Tryz.ntmps144
  go_wp2_with fail
  refine HLd.out.mono ?_
  rintro e w1 ⟨A, C, q, rfl, hL, rfl⟩
  have HL := Lib.hid hL
  clear hL
  go_wp2_with fail
  refine (foresee_any A C HL.out.la (Nat.lt_of_le_of_lt HL.out.le HL.out.la) HL.out.le _).mono ?_
  rintro e w2 ⟨a, b, c, d, X0, Y0, odd, rfl, hS, haB, hbB, hcB, hdB, hbel⟩
  have HS := Lib.hid hS
  have HBel := Lib.hid ((bdrewN (Below.refl w.heap.size w)).trans hbel)
  clear hS hbel
  by_cases hb0 : b = 0
  · have hbb : (((b : Nat) : Int) == 0) = true := by subst hb0; rfl
    clear hb0
    have hbw : Below w.heap.size w (w2.alloc (.cells #[u a, u b, u c, u d, .bool odd] 190)) := HBel.out.alloc HBel.out.size _
    have HBW := Lib.hid hbw
    clear hbw
    go_wp2_with fail
    refine (over_any _ _ m n k _ (H1.out.below HBW.out (Nat.le_refl _)) (H2.out.below HBW.out (Nat.le_refl _)) (by have := B_pos; omega) hm hk).mono ?_
    rintro e w4 ⟨vq, vr, rfl, _, hr, hb4⟩
    have HR := Lib.hid hr
    have HB4 := Lib.hid hb4
    clear hr hb4
    go_wp2_with fail
    go_ret2
    have hn0 : 0 < n := by have := B_pos; omega
    have hbz : Below w.heap.size w w4 := HBW.out.trans (HB4.out.mono HBW.out.size)
    refine ⟨_, vr, n, m % n, rfl, H2.out.below hbz (Nat.le_refl _), HR.out, ?_, Nat.mod_lt _ hn0, Nat.le_of_lt (Nat.mod_lt _ hn0), hle, hbz⟩
    rw [Nat.gcd_comm m n, Nat.gcd_rec n m, Nat.gcd_comm]
  · have hbb : (((b : Nat) : Int) == 0) = false := by rw [beq_eq_false_iff_ne]; omega
    obtain ⟨X, Y, hXY, hg, hYn, hYX, hXm, hXn⟩ := euclid HL.out HS.out (.inl hb0)
    have hnk : n < B ^ k := by omega
    have hbw : Below w.heap.size w (w2.alloc (.cells #[u a, u b, u c, u d, .bool odd] 190)) := HBel.out.alloc HBel.out.size _
    have hSA : StepsAt (w2.alloc (.cells #[u a, u b, u c, u d, .bool odd] 190)) w2.heap.size a b c d odd := heap_alloc_new w2 _
    have hwK : w.heap.size ≤ w2.heap.size := HBel.out.size
    obtain ⟨K, hK⟩ : ∃ K, K = w2.heap.size := ⟨_, rfl⟩
    have hKlt : K < (w2.alloc (.cells #[u a, u b, u c, u d, .bool odd] 190)).heap.size := by rw [hK]; simp
    have HXY := Lib.hid hXY
    have HG := Lib.hid hg
    have hm' := hm
    clear hXY hg hb0
    cases odd
    · obtain ⟨eX, leX, eY, leY⟩ : X = a * m - b * n ∧ b * n ≤ a * m ∧ Y = d * n - c * m ∧ c * m ≤ d * n := by simpa using HXY.out
      have D1 := Lib.hid (fun (W : World) (hW : Below w.heap.size w W) => difference_any _ _ a b m n k W (H1.out.below hW (Nat.le_refl _)) (H2.out.below hW (Nat.le_refl _)) haB hbB leX (.inl (by omega)) hm hnk hk)
      have D2 := Lib.hid (fun (W : World) (hW : Below w.heap.size w W) => difference_any _ _ d c n m k W (H2.out.below hW (Nat.le_refl _)) (H1.out.below hW (Nat.le_refl _)) hdB hcB leY (.inl (by omega)) hnk hm hk)
      rw [← eX] at D1
      rw [← eY] at D2
      have EX := Lib.hid eX
      have EY := Lib.hid eY
      clear eX eY leX leY hm hm' hnk
      obtain ⟨W, hW⟩ : ∃ W, W = w2.alloc (.cells #[u a, u b, u c, u d, .bool false] 190) := ⟨_, rfl⟩
      rw [← hW] at hbw hSA hKlt
      go_wp2_with fail
      rw [← hK, ← hW]
      rw [← hK] at hSA
      obtain ⟨⟨q0, q1, q2, q3, q4⟩, _⟩ := hSA.cells
      have HW := Lib.hid hW
      have HKl := Lib.hid hKlt
      have HBW := Lib.hid hbw
      have HKK := Lib.hid hK
      clear hW hSA hKlt hbw hK
      go_region_held3 (fun w' => w'.cell? ⟨K, 0, none⟩ = some (u a) ∧ w'.cell? ⟨K, 1, none⟩ = some (u b) ∧ w'.cell? ⟨K, 2, none⟩ = some (u c) ∧ w'.cell? ⟨K, 3, none⟩ = some (u d)) (go_keep) (first | ((with_reducible refine (D1.out W.drew HBW.out.drew).mono ?_); rintro e W1 ⟨pv, rfl, hp, hb1⟩; have s0 := (hb1.cell (p := ⟨K, 0, none⟩) HKl.out).trans q0; have s1 := (hb1.cell (p := ⟨K, 1, none⟩) HKl.out).trans q1; have s2 := (hb1.cell (p := ⟨K, 2, none⟩) HKl.out).trans q2; have s3 := (hb1.cell (p := ⟨K, 3, none⟩) HKl.out).trans q3; have HP := Lib.hid hp; have HB1 := Lib.hid hb1; clear hp hb1) | ((with_reducible refine (D2.out W1 (HBW.out.drew.trans (HB1.out.mono (HBW.out.drew.size)))).mono ?_); rintro e W2 ⟨qv, rfl, hq, hb2⟩; have t0 := (hb2.cell (p := ⟨K, 0, none⟩) (Nat.lt_of_lt_of_le HKl.out HB1.out.size)).trans s0; have t1 := (hb2.cell (p := ⟨K, 1, none⟩) (Nat.lt_of_lt_of_le HKl.out HB1.out.size)).trans s1; have t2 := (hb2.cell (p := ⟨K, 2, none⟩) (Nat.lt_of_lt_of_le HKl.out HB1.out.size)).trans s2; have t3 := (hb2.cell (p := ⟨K, 3, none⟩) (Nat.lt_of_lt_of_le HKl.out HB1.out.size)).trans s3; have HQ := Lib.hid hq; have HB2 := Lib.hid hb2; clear hq hb2))
      go_wp2_with fail
      go_ret2
      have hs1 : w.heap.size ≤ W1.heap.size := Nat.le_trans HBW.out.drew.size HB1.out.size
      refine ⟨pv, qv, X, Y, rfl, HP.out.below HB2.out (Nat.le_refl _), HQ.out, HG.out, hYn, Nat.le_of_lt hYX, hXm, ?_⟩
      exact (HBW.out.drew.trans (HB1.out.mono HBW.out.drew.size)).trans (HB2.out.mono hs1)
    · obtain ⟨eX, leX, eY, leY⟩ : X = b * n - a * m ∧ a * m ≤ b * n ∧ Y = c * m - d * n ∧ d * n ≤ c * m := by simpa using HXY.out
      have D1 := Lib.hid (fun (W : World) (hW : Below w.heap.size w W) => difference_any _ _ b a n m k W (H2.out.below hW (Nat.le_refl _)) (H1.out.below hW (Nat.le_refl _)) hbB haB leX (.inl (by omega)) hnk hm hk)
      have D2 := Lib.hid (fun (W : World) (hW : Below w.heap.size w W) => difference_any _ _ c d m n k W (H1.out.below hW (Nat.le_refl _)) (H2.out.below hW (Nat.le_refl _)) hcB hdB leY (.inr (by omega)) hm hnk hk)
      rw [← eX] at D1
      rw [← eY] at D2
      have EX := Lib.hid eX
      have EY := Lib.hid eY
      clear eX eY leX leY hm hm' hnk
      obtain ⟨W, hW⟩ : ∃ W, W = w2.alloc (.cells #[u a, u b, u c, u d, .bool true] 190) := ⟨_, rfl⟩
      rw [← hW] at hbw hSA hKlt
      go_wp2_with fail
      rw [← hK, ← hW]
      rw [← hK] at hSA
      obtain ⟨⟨q0, q1, q2, q3, q4⟩, _⟩ := hSA.cells
      have HW := Lib.hid hW
      have HKl := Lib.hid hKlt
      have HBW := Lib.hid hbw
      have HKK := Lib.hid hK
      clear hW hSA hKlt hbw hK
      go_region_held3 (fun w' => w'.cell? ⟨K, 0, none⟩ = some (u a) ∧ w'.cell? ⟨K, 1, none⟩ = some (u b) ∧ w'.cell? ⟨K, 2, none⟩ = some (u c) ∧ w'.cell? ⟨K, 3, none⟩ = some (u d)) (go_keep) (first | ((with_reducible refine (D1.out W.drew HBW.out.drew).mono ?_); rintro e W1 ⟨pv, rfl, hp, hb1⟩; have s0 := (hb1.cell (p := ⟨K, 0, none⟩) HKl.out).trans q0; have s1 := (hb1.cell (p := ⟨K, 1, none⟩) HKl.out).trans q1; have s2 := (hb1.cell (p := ⟨K, 2, none⟩) HKl.out).trans q2; have s3 := (hb1.cell (p := ⟨K, 3, none⟩) HKl.out).trans q3; have HP := Lib.hid hp; have HB1 := Lib.hid hb1; clear hp hb1) | ((with_reducible refine (D2.out W1 (HBW.out.drew.trans (HB1.out.mono (HBW.out.drew.size)))).mono ?_); rintro e W2 ⟨qv, rfl, hq, hb2⟩; have t0 := (hb2.cell (p := ⟨K, 0, none⟩) (Nat.lt_of_lt_of_le HKl.out HB1.out.size)).trans s0; have t1 := (hb2.cell (p := ⟨K, 1, none⟩) (Nat.lt_of_lt_of_le HKl.out HB1.out.size)).trans s1; have t2 := (hb2.cell (p := ⟨K, 2, none⟩) (Nat.lt_of_lt_of_le HKl.out HB1.out.size)).trans s2; have t3 := (hb2.cell (p := ⟨K, 3, none⟩) (Nat.lt_of_lt_of_le HKl.out HB1.out.size)).trans s3; have HQ := Lib.hid hq; have HB2 := Lib.hid hb2; clear hq hb2))
      go_wp2_with fail
      go_ret2
      have hs1 : w.heap.size ≤ W1.heap.size := Nat.le_trans HBW.out.drew.size HB1.out.size
      refine ⟨pv, qv, X, Y, rfl, HP.out.below HB2.out (Nat.le_refl _), HQ.out, HG.out, hYn, Nat.le_of_lt hYX, hXm, ?_⟩
      exact (HBW.out.drew.trans (HB1.out.mono HBW.out.drew.size)).trans (HB2.out.mono hs1)
open Go Go.RowKit Go.Proofs Lim
theorem IsNat.unique {w : World} {v : Value} {m n : Nat} (h1 : IsNat w v m) (h2 : IsNat w v n) : m = n := by
  obtain ⟨xs, ⟨⟨xa, xc, rfl, _, _, hr1⟩, ok1⟩, _, rfl⟩ := h1
  obtain ⟨ys, ⟨⟨ya, yc, he, _, _, hr2⟩, ok2⟩, _, rfl⟩ := h2
  injection he with e1 e2 e3
  subst e1
  have : xs = ys := by
    refine List.ext_getElem e2 fun i h1 h2 => ?_
    obtain ⟨b, o, rfl, r1⟩ := hr1 (by omega)
    obtain ⟨b', o', e, r2⟩ := hr2 (by omega)
    injection e with e
    injection e with eb eo
    subst eb
    subst eo
    have a1 := r1 i h1
    have a2 := r2 i h2
    rw [a1] at a2
    rw [List.getElem?_eq_getElem h1, List.getElem?_eq_getElem h2] at a2
    injection a2 with a2
    injection a2 with _ a2
    simp only [Option.getD_some] at a2
    omega
  rw [this]
open Classical in
noncomputable def natOf (w : World) (v : Value) : Nat := if h : ∃ n, IsNat w v n then h.choose else 0
theorem natOf_eq {w : World} {v : Value} {n : Nat} (h : IsNat w v n) : natOf w v = n := by
  unfold natOf
  have he : ∃ n, IsNat w v n := ⟨n, h⟩
  rw [dif_pos he]
  exact IsNat.unique he.choose_spec h
theorem IsNat.form {w : World} {v : Value} {n : Nat} (h : IsNat w v n) : ∃ ao l c, v = .slice ao l c ∧ (l : Int) ≤ 9223372036854775807 ∧ (l = 0 ↔ n = 0) ∧ (1 < l ↔ B ≤ n) := by
  obtain ⟨xs, ⟨⟨xa, xc, rfl, h1, h2, hr1⟩, ok1⟩, t1, rfl⟩ := h
  unfold maxLen at h2
  refine ⟨xa, xs.length, xc, rfl, by omega, ?_, ?_⟩
  · rw [val_eq_zero t1]; exact List.length_eq_zero_iff
  · constructor
    · intro hl
      have h3 := val_pos_of_trim t1 (by intro e; subst e; simp at hl)
      have h4 : B ^ 1 ≤ B ^ (xs.length - 1) := Nat.pow_le_pow_right B_pos (by omega)
      rw [Nat.pow_one] at h4
      omega
    · intro hB
      rcases Nat.lt_or_ge 1 xs.length with h | h
      · exact h
      · exfalso
        have h3 := val_lt ok1
        have h4 : B ^ xs.length ≤ B ^ 1 := Nat.pow_le_pow_right B_pos h
        rw [Nat.pow_one] at h4
        omega
theorem IsNat.limb {w : World} {v : Value} {n : Nat} (h : IsNat w v n) (h0 : 0 < n) (hB : n < B) : ∃ b o c, v = .slice (some ⟨b, o, none⟩) 1 c ∧ w.cell? ⟨b, o, none⟩ = some (u n) := by
  obtain ⟨xs, ⟨⟨xa, xc, rfl, h1, h2, hr1⟩, ok1⟩, t1, rfl⟩ := h
  have hl : xs.length ≤ 1 := IsNat.len t1 rfl (by rw [Nat.pow_one]; exact hB)
  rcases xs with _ | ⟨x, _ | ⟨y, xs⟩⟩
  · simp [val] at h0
  · obtain ⟨b, o, rfl, r⟩ := hr1 (by simp)
    refine ⟨b, o, xc, rfl, ?_⟩
    have := r 0 (by simp)
    simpa [val] using this
  · simp at hl
def ComRel (w : World) (m G : Nat) (s0 s1 : Value) (wr : World) : Prop := ∃ M N, IsNat wr s0 M ∧ IsNat wr s1 N ∧ N ≤ M ∧ M ≤ m ∧ Nat.gcd M N = G ∧ Below w.heap.size w wr
theorem common_any (v1 v2 : Value) (m n k : Nat) (w : World) (h1 : IsNat w v1 m) (h2 : IsNat w v2 n) (hm : m < B ^ k) (hn : n < B ^ k) (hk : (k : Int) ≤ 1073741824) (hG : Gr w) :
    Calls Tryz.prog 120 #[v1, v2] w (NatNew w (Nat.gcd m n)) := by
  have HC := Lib.hid (compare_any v1 v2 m n w h1 h2)
  have H1 := Lib.hid h1
  have H2 := Lib.hid h2
  have HG := Lib.hid hG
  obtain ⟨xs, ⟨⟨xa, xc, rfl, _, _, _⟩, _⟩, _⟩ := h1
  obtain ⟨ys, ⟨⟨ya, yc, rfl, _, _, _⟩, _⟩, _⟩ := h2
  go_enter Tryz.func120, Tryz.ntmps120
  go_upto_if 10 with (go_at_call 135; refine HC.out.mono ?_; rintro e w1 ⟨rfl, q, rfl⟩)
  go_cut [0, 1] (fun s0 s1 wc => ComRel w (max m n) (Nat.gcd m n) s0 s1 wc)
  case first =>
    by_cases hlt : m < n
    · have hc : cmpNat m n = -1 := if_pos hlt
      have hcm : cmpNat m n < 0 := by rw [hc]; omega
      have HH := Lib.hid hlt
      clear hc hlt HC
      generalize cmpNat m n = cm at *
      go_wp2_with fail
      go_meet
      case rel =>
        have hlt := HH.out
        exact ⟨n, m, H2.out.below (bdrewN (Below.refl w.heap.size w)) (Nat.le_refl _), H1.out.below (bdrewN (Below.refl w.heap.size w)) (Nat.le_refl _), by omega, by omega, Nat.gcd_comm n m, bdrewN (Below.refl _ _)⟩
    · have hc : ¬ cmpNat m n < 0 := by
        unfold cmpNat
        rw [if_neg hlt]
        split <;> omega
      have hcm : 0 ≤ cmpNat m n := by omega
      have HH := Lib.hid hlt
      clear hc hlt HC
      generalize cmpNat m n = cm at *
      go_wp2_with fail
      go_meet
      case rel =>
        have hlt := HH.out
        exact ⟨m, n, H1.out.below (bdrewN (Below.refl w.heap.size w)) (Nat.le_refl _), H2.out.below (bdrewN (Below.refl w.heap.size w)) (Nat.le_refl _), by omega, by omega, rfl, bdrewN (Below.refl _ _)⟩
  case rest =>
    have hmax : max m n < B ^ k := by rcases Nat.le_total m n with h | h <;> omega
    have HM := Lib.hid hmax
    have HCut := Lib.hid hcut
    clear hcut hmax hm hn HC H1 H2
    generalize Nat.gcd m n = G at *
    generalize max m n = mm at *
    go_wp2_with fail
    go_loopw [0, 1] (fun s0 s1 wr => Hid (ComRel w mm G s0 s1 wr)) (fun _ s1 wr => natOf wr s1)
    case atStart => exact HCut.out
    case round =>
      obtain ⟨M, N, i1, i2, hNM, hMm, hg, hbe⟩ := hrel.out
      obtain ⟨ao, l, c, rfl, hl1, hl2, hl3⟩ := i2.form
      obtain ⟨bo, l', c', rfl, hl1', _, _⟩ := i1.form
      have I1 := Lib.hid i1
      have I2 := Lib.hid i2
      have HBe := Lib.hid hbe
      have HGG := Lib.hid hg
      have hMk : M < B ^ k := by have := HM.out; omega
      have HMk := Lib.hid hMk
      have HL2 := Lib.hid hl2
      have HL3 := Lib.hid hl3
      clear i1 i2 hbe hg hMk hl2 hl3 hrel HCut
      by_cases h1 : 1 < l
      · have h1i : (1 : Int) < (l : Int) := by omega
        go_wp2_with fail
        refine (reduce_any _ _ M N k wr I1.out I2.out hNM (HL3.out.1 h1) HMk.out hk).mono ?_
        rintro e w1 ⟨p, q, X, Y, rfl, hp, hq, hXY, hYN, hYX, hXM, hb⟩
        have HP := Lib.hid hp
        have HQ := Lib.hid hq
        have HXY := Lib.hid hXY
        have HB1 := Lib.hid hb
        clear hp hq hXY hb
        go_wp2_with fail
        go_roundw
        case rel => exact ⟨X, Y, HP.out, HQ.out, hYX, by omega, by rw [HXY.out]; exact HGG.out, HBe.out.trans (HB1.out.mono HBe.out.size)⟩
        case measure => rw [natOf_eq HQ.out, natOf_eq I2.out]; exact hYN
      · by_cases h0 : l = 0
        · have hN0 : N = 0 := HL2.out.1 h0
          have h0b : (((l : Nat) : Int) == 0) = true := by subst h0; rfl
          have h0i : ¬ (1 : Int) < (l : Int) := by omega
          have HN0 := Lib.hid hN0
          clear h1 h0 hN0
          go_wp2_with fail
          go_ret
          refine ⟨_, rfl, ?_, HBe.out⟩
          have := HGG.out
          rw [HN0.out, Nat.gcd_zero_right] at this
          rw [← this]
          exact I1.out
        · have hNB : N < B := by
            rcases Nat.lt_or_ge N B with h | h
            · exact h
            · exact absurd (HL3.out.2 h) h1
          have hN0 : 0 < N := by
            rcases Nat.eq_zero_or_pos N with h | h
            · exact absurd (HL2.out.2 h) h0
            · exact h
          have h0b : (((l : Nat) : Int) == 0) = false := by rw [beq_eq_false_iff_ne]; omega
          have h0i : ¬ (1 : Int) < (l : Int) := by omega
          clear h1 h0
          by_cases hN1 : N = 1
          · have HI := Lib.hid (isOne_yes _ N wr I2.out hN1)
            have HG1 := Lib.hid hN1
            clear hN1
            go_wp2_with fail
            refine HI.out.mono ?_
            rintro e w1 ⟨rfl, rfl⟩
            go_wp2_with fail
            go_ret
            refine ⟨_, rfl, ?_, HBe.out⟩
            have := HGG.out
            rw [HG1.out, Nat.gcd_one_right] at this
            rw [← this, ← HG1.out]
            exact I2.out
          · have HI := Lib.hid (isOne_no _ N wr I2.out hN1)
            clear hN1
            go_wp2_with fail
            refine HI.out.mono ?_
            rintro e w1 ⟨rfl, rfl⟩
            go_wp2_with fail
            refine (over_any _ _ M N k wr I1.out I2.out hN0 HMk.out hk).mono ?_
            rintro e w1 ⟨p, q, rfl, hp, hq, hb⟩
            obtain ⟨ro, rl, rc, rfl, hr1, hr2, hr3⟩ := hq.form
            have HQ := Lib.hid hq
            have HB1 := Lib.hid hb
            have HR2 := Lib.hid hr2
            have HR3 := Lib.hid hr3
            clear hp hq hb hr2 hr3
            by_cases hz : rl = 0
            · have hzb : (((rl : Nat) : Int) == 0) = true := by subst hz; rfl
              have HZ := Lib.hid (HR2.out.1 hz)
              clear hz
              go_wp2_with fail
              go_ret
              refine ⟨_, rfl, ?_, HBe.out.trans (HB1.out.mono HBe.out.size)⟩
              have := HGG.out
              rw [Nat.gcd_comm, Nat.gcd_rec, HZ.out, Nat.gcd_zero_left] at this
              rw [← this]
              exact I2.out.below HB1.out (Nat.le_refl _)
            · have hzb : (((rl : Nat) : Int) == 0) = false := by rw [beq_eq_false_iff_ne]; omega
              have hR0 : 0 < M % N := by
                rcases Nat.eq_zero_or_pos (M % N) with h | h
                · exact absurd (HR2.out.2 h) hz
                · exact h
              have hRB : M % N < B := Nat.lt_trans (Nat.mod_lt _ hN0) hNB
              obtain ⟨yb, yo, yc', hye, hcy⟩ := I2.out.limb hN0 hNB
              obtain ⟨zb, zo, zc', hze, hcz⟩ := HQ.out.limb hR0 hRB
              injection hye with e1 e2 e3
              injection hze with f1 f2 f3
              subst e1 e2 e3 f1 f2 f3
              have hcy1 : w1.cell? ⟨yb, yo, none⟩ = some (u N) := (HB1.out.cell (p := ⟨yb, yo, none⟩) (World.block_lt_of_cell? wr _ hcy)).trans hcy
              have hgc : Nat.gcd N (M % N) = G := by
                have := HGG.out
                rw [Nat.gcd_comm, Nat.gcd_rec, Nat.gcd_comm] at this
                exact this
              have hGr : Gr w1 := (HG.out.below HBe.out HG.out.size).below HB1.out (Nat.le_trans HG.out.size HBe.out.size)
              have HGr := Lib.hid hGr
              have HCW := Lib.hid (fun W hW => commonWord_any N (M % N) hNB hRB W hW)
              rw [hgc] at HCW
              have hGB : G < B := by rw [← hgc]; exact gcd_lt hNB hRB
              have HWd := Lib.hid (fun W => word_any G W hGB)
              generalize M % N = Rr at *
              clear hgc hGr hcy
              go_wp2_with fail
              go_region_held3 (fun w' => w'.cell? ⟨yb, yo, none⟩ = some (u N) ∧ w'.cell? ⟨zb, zo, none⟩ = some (u Rr)) (go_keep) (first | ((with_reducible refine (HCW.out w1.drew (HGr.out.below (Below.refl _ _).drew HGr.out.size)).mono ?_); rintro e W1 ⟨rfl, rfl⟩) | ((with_reducible refine (HWd.out _).mono ?_); rintro e W2 ⟨vr, rfl, hv, hb2⟩; have HV := Lib.hid hv; have HB2 := Lib.hid hb2; have g1 := (hb2.cell (p := ⟨yb, yo, none⟩) (World.block_lt_of_cell? w1 _ hcy1)).trans hcy1; have g2 := (hb2.cell (p := ⟨zb, zo, none⟩) (World.block_lt_of_cell? w1 _ hcz)).trans hcz; clear hv hb2))
              go_wp2_with fail
              go_ret
              refine ⟨vr, rfl, HV.out, ?_⟩
              have b1 : Below w.heap.size w w1 := HBe.out.trans (HB1.out.mono HBe.out.size)
              exact b1.drew.trans (HB2.out.mono b1.size)
end Go.Proofs.YtccabfblgjcboaaGreatDoor

namespace Go.Proofs.YtccabfblgjcboaaGreatDoor.Lim
def digs (n : Nat) : List Nat := if n = 0 then [] else n % 10 :: digs (n / 10)
  termination_by n
  decreasing_by omega
theorem digs_zero : digs 0 = [] := by rw [digs]; simp
theorem digs_pos {n : Nat} (h : n ≠ 0) : digs n = n % 10 :: digs (n / 10) := by rw [digs, if_neg h]
def dbyte (d : Nat) : UInt8 := UInt8.ofNat (48 + d)
def ntext (n : Nat) : List UInt8 := if n = 0 then [48] else ((digs n).map dbyte).reverse
def dval (l : List UInt8) : Nat := l.foldl (fun a c => 10 * a + (c.toNat - 48)) 0
def isDig (c : UInt8) : Bool := 48 ≤ c.toNat && c.toNat ≤ 57
theorem dbyte_toNat {d : Nat} (h : d < 10) : (dbyte d).toNat = 48 + d := by
  unfold dbyte
  rw [UInt8.toNat_ofNat']
  omega
theorem digs_lt (n : Nat) : ∀ d ∈ digs n, d < 10 := by
  induction n using Nat.strongRecOn with
  | ind n ih =>
    by_cases h : n = 0
    · subst h; rw [digs_zero]; intro d hd; cases hd
    · rw [digs_pos h]
      intro d hd
      rcases List.mem_cons.1 hd with rfl | hd
      · omega
      · exact ih (n / 10) (by omega) d hd
theorem dval_snoc (l : List UInt8) (c : UInt8) : dval (l ++ [c]) = 10 * dval l + (c.toNat - 48) := by
  unfold dval; rw [List.foldl_append]; rfl
theorem dval_nil : dval [] = 0 := rfl
theorem dval_append (l m : List UInt8) : dval (l ++ m) = 10 ^ m.length * dval l + dval m := by
  have h : ∀ (m : List UInt8) (a : Nat), m.foldl (fun a c => 10 * a + (c.toNat - 48)) a = 10 ^ m.length * a + m.foldl (fun a c => 10 * a + (c.toNat - 48)) 0 := by
    intro m
    induction m with
    | nil => intro a; simp
    | cons c m ih =>
      intro a
      simp only [List.foldl_cons, List.length_cons]
      rw [ih, ih (10 * 0 + (c.toNat - 48)), Nat.pow_succ]
      grind
  unfold dval
  rw [List.foldl_append, h]
theorem dval_digs (n : Nat) : dval ((digs n).map dbyte).reverse = n := by
  induction n using Nat.strongRecOn with
  | ind n ih =>
    by_cases h : n = 0
    · subst h; rw [digs_zero]; rfl
    · rw [digs_pos h, List.map_cons, List.reverse_cons, dval_snoc, ih (n / 10) (by omega), dbyte_toNat (by omega)]
      omega
theorem dval_ntext (n : Nat) : dval (ntext n) = n := by
  unfold ntext
  split
  · rename_i h; subst h; rfl
  · exact dval_digs n
theorem ntext_inj {m n : Nat} (h : ntext m = ntext n) : m = n := by rw [← dval_ntext m, h, dval_ntext]
theorem isDig_dbyte {d : Nat} (h : d < 10) : isDig (dbyte d) = true := by
  unfold isDig
  rw [dbyte_toNat h]
  simp; omega
theorem ntext_dig (n : Nat) : ∀ c ∈ ntext n, isDig c = true := by
  unfold ntext
  split
  · intro c hc; simp at hc; subst hc; decide
  · intro c hc
    rw [List.mem_reverse, List.mem_map] at hc
    obtain ⟨d, hd, rfl⟩ := hc
    exact isDig_dbyte (digs_lt n d hd)
theorem ntext_ne (n : Nat) : ntext n ≠ [] := by
  unfold ntext
  split
  · simp
  · rename_i h; rw [digs_pos h]; simp
theorem digs_len {n j : Nat} (h : n < 10 ^ j) : (digs n).length ≤ j := by
  induction j generalizing n with
  | zero => have : n = 0 := by simpa using h
            subst this; rw [digs_zero]; simp
  | succ j ih =>
    by_cases h0 : n = 0
    · subst h0; rw [digs_zero]; simp
    · rw [digs_pos h0, List.length_cons]
      have := ih (n := n / 10) (by rw [Nat.div_lt_iff_lt_mul (by omega)]; rw [Nat.pow_succ] at h; exact h)
      omega
theorem dval_lt (l : List UInt8) (h : ∀ c ∈ l, isDig c = true) : dval l < 10 ^ l.length := by
  induction l with
  | nil => decide
  | cons c l ih =>
    have h1 := ih (fun x hx => h x (by simp [hx]))
    have h2 := h c (by simp)
    unfold isDig at h2
    simp at h2
    have h3 := dval_append [c] l
    rw [show dval [c] = c.toNat - 48 from by simp [dval]] at h3
    rw [show c :: l = [c] ++ l from rfl, h3, List.length_append, Nat.pow_add, Nat.mul_comm (10 ^ [c].length)]
    have h4 : 10 ^ l.length * (c.toNat - 48 + 1) ≤ 10 ^ l.length * 10 ^ [c].length := Nat.mul_le_mul_left _ (by simp; omega)
    rw [Nat.mul_add] at h4
    omega
def qtext (r : Rat) : List UInt8 := (if r.num < 0 then [45] else []) ++ ntext r.num.natAbs ++ (if r.den = 1 then [] else 47 :: ntext r.den)
def minusOf (s : List UInt8) : Bool := s.head? == some 45
def restOf (s : List UInt8) : List UInt8 := if minusOf s then s.tail else s
def okNat (l : List UInt8) : Bool := !l.isEmpty && l.all isDig
def aboveOf (s : List UInt8) : List UInt8 := (restOf s).takeWhile (· != 47)
def belowOf (s : List UInt8) : List UInt8 := if ((restOf s).dropWhile (· != 47)).isEmpty then [49] else ((restOf s).dropWhile (· != 47)).tail
def signed (neg : Bool) (n : Nat) : Rat := if neg then -(n : Rat) else (n : Rat)
def parsed (s : List UInt8) : Option Rat :=
  if okNat (aboveOf s) && okNat (belowOf s) && dval (belowOf s) != 0 then some (signed (minusOf s) (dval (aboveOf s)) * ((dval (belowOf s) : Nat) : Rat)⁻¹) else none
def readQ (s : List UInt8) : Rat × Int :=
  if 4000 < s.length then (0, 5) else
  match parsed s with
  | none => (0, 4)
  | some r => if qtext r = s then (r, 0) else (0, 4)
theorem readQ_ok {s : List UInt8} (h : (readQ s).2 = 0) : qtext (readQ s).1 = s := by
  unfold readQ at *
  by_cases hl : 4000 < s.length
  · rw [if_pos hl] at h; cases h
  · rw [if_neg hl] at h ⊢
    cases hp : parsed s with
    | none => rw [hp] at h; cases h
    | some r =>
      rw [hp] at h
      by_cases hq : qtext r = s
      · simp [hq]
      · simp [hq] at h
theorem readQ_len {s : List UInt8} (h : (readQ s).2 ≠ 0) : (readQ s).1 = 0 := by
  unfold readQ at *
  by_cases hl : 4000 < s.length
  · rw [if_pos hl]
  · rw [if_neg hl] at h ⊢
    cases hp : parsed s with
    | none => rfl
    | some r =>
      rw [hp] at h
      by_cases hq : qtext r = s
      · simp [hq] at h
      · simp [hq]
theorem ntext_lt (n : Nat) : n < 10 ^ (ntext n).length := by
  have := dval_lt (ntext n) (ntext_dig n)
  rwa [dval_ntext] at this
theorem qtext_size (r : Rat) {L : Nat} (h : (qtext r).length ≤ L) (h1 : 1 ≤ L) : r.num.natAbs < 10 ^ L ∧ r.den < 10 ^ L := by
  have e : (qtext r).length = (if r.num < 0 then [45] else ([] : List UInt8)).length + (ntext r.num.natAbs).length + (if r.den = 1 then [] else 47 :: ntext r.den).length := by
    unfold qtext; rw [List.length_append, List.length_append]
  refine ⟨Nat.lt_of_lt_of_le (ntext_lt _) (Nat.pow_le_pow_right (by omega) (by omega)), ?_⟩
  by_cases hd : r.den = 1
  · rw [hd]
    exact Nat.lt_of_lt_of_le (by decide : 1 < 10 ^ 1) (Nat.pow_le_pow_right (by omega) h1)
  · rw [if_neg hd, List.length_cons] at e
    exact Nat.lt_of_lt_of_le (ntext_lt _) (Nat.pow_le_pow_right (by omega) (by omega))
theorem readQ_size (s : List UInt8) {L : Nat} (h : s.length ≤ L) (h1 : 1 ≤ L) : (readQ s).1.num.natAbs < 10 ^ L ∧ (readQ s).1.den < 10 ^ L := by
  by_cases hk : (readQ s).2 = 0
  · have := readQ_ok hk
    exact qtext_size _ (by rw [this]; exact h) h1
  · rw [readQ_len hk]
    have : 1 < 10 ^ L := Nat.lt_of_lt_of_le (by decide : 1 < 10 ^ 1) (Nat.pow_le_pow_right (by omega) h1)
    exact ⟨by simp; omega, by simp; omega⟩
end Go.Proofs.YtccabfblgjcboaaGreatDoor.Lim

namespace Go.Proofs.YtccabfblgjcboaaGreatDoor
open Go Go.RowKit
structure Keep (m : Nat) (A B : World) : Prop where
  size : A.heap.size ≤ B.heap.size
  block : ∀ k, m ≤ k → k < A.heap.size → B.heap[k]? = A.heap[k]?
theorem Keep.trans {m : Nat} {A B C : World} (h : Keep m A B) (k : Keep m B C) : Keep m A C :=
  ⟨Nat.le_trans h.size k.size, fun i hm hi => (k.block i hm (Nat.lt_of_lt_of_le hi h.size)).trans (h.block i hm hi)⟩
theorem Keep.mono {m m' : Nat} {A B : World} (h : Keep m A B) (hm : m ≤ m') : Keep m' A B := ⟨h.size, fun k h1 h2 => h.block k (Nat.le_trans hm h1) h2⟩
theorem Keep.putObj {m l : Nat} (A : World) (o : Obj) (h : l < m) : Keep m A (A.putObj l o) := ⟨by simp, fun k hm _ => World.putObj_heap_other (by omega)⟩
theorem below_putObj {m l : Nat} (A : World) (o : Obj) (h : m ≤ l) : Below m A (A.putObj l o) := ⟨rfl, rfl, rfl, by simp, fun k hk => World.putObj_heap_other (by omega)⟩
def Lies {β : Type} (B : Nat) (I : β → World → Prop) : Prop := ∀ s A C, I s A → Below B A C → I s C
def SeqOwn {α : Type} (F : Fence) (n : Nat) (P : Program) (g : Nat) (lb : Array Value) (enc : α → Value) (ok : List α → α → Prop) (S : List α → Prop) (w : World) : Prop :=
  ∀ (l : Nat) (J : List α → World → Prop) (W : World), Below w.heap.size w W → Lies W.heap.size J →
    (∀ pre x A, J pre A → ok pre x → YieldAt F (n - 1) P l #[enc x] A fun e C => e = .returned (.bool true) ∧ J (pre ++ [x]) C ∧ Keep W.heap.size A C) →
    J [] W →
    CallsIn F n P g (#[.func (.yield l) #[] #[]] ++ lb) W fun e W' => (∃ v, e = .returned v) ∧ ∃ xs, S xs ∧ J xs W'
variable {F : Fence} {n : Nat} {P : Program}
def roundOwn {α : Type} (B : Nat) (I : List α → World → Prop) (xs : List α) (W : World) : Exit → Act → World → Prop
  | .normal, _, W' => Keep B W W' ∧ I xs W'
  | _, _, _ => False
theorem wpIn_rangeFunc_cells {α : Type} {g : Operand} {ps : Array Tmp} {assign body : Code} {Q : Exit → Act → World → Prop} {a : Act} {w : World}
    (hro : F.round = none) (h1 : 1 ≤ n) {gf : Nat} {lb : Array Value} (hg : a.eval g = .func (.func gf) #[] lb) (hFg : F.fn gf) (eg : ∀ args w, (callFunc gf args).run P w = .ok (.enter gf args) w)
    {enc : α → Value} {ok : List α → α → Prop} {S : List α → Prop} {w0 : World} (hseq : SeqOwn F (n - 1) P gf lb enc ok S w0) (hb0 : Below w0.heap.size w0 w) (hps : ps.size = 1)
    (I : List α → World → Prop) (hI : Lies w.heap.size I) (h0 : I [] w) (a₁ : α → Act)
    (hassign : ∀ (l : Nat) (x : α) (W : World) (K : Act → World → Prop), K (a₁ x) W →
      assign.wpIn (F.inRound l) (n - 1 - 1) P (Exit.then K (fun _ _ _ => False)) { tmps := (ps.zip #[enc x]).foldl (fun t (p, v) => t.setIfInBounds p v) a.tmps, defers := [] } W)
    (hbody : ∀ (l : Nat) (pre : List α) (x : α) (W : World), I pre W → ok pre x → w.heap.size ≤ W.heap.size → body.wpIn (F.inRound l) (n - 1 - 1) P (roundOwn w.heap.size I (pre ++ [x]) W) (a₁ x) W)
    (hdone : ∀ (xs : List α) (W : World), S xs → I xs W → w.heap.size < W.heap.size → W.heap[w.heap.size]? = some (.deferred (some [])) → Q .normal { a with defers := { target := .collected w.heap.size, args := #[] } :: a.defers } W) :
    (Code.rangeFunc g ps assign body).wpIn F n P Q a w := by
  refine wpIn_rangeFunc ?_
  intro fn hfn
  rw [hro]
  obtain ⟨rec, hrec⟩ : ∃ rec : LoopState → Option Code → Loop, rec = fun st pe => { state := st, pending := pe, fn, tmps := a.tmps, params := ps, assign, body, defers := w.heap.size } := ⟨_, rfl⟩
  obtain ⟨W1, hW1⟩ : ∃ W1, (w.alloc (.deferred (some []))).alloc (.loop (rec .ready none)) = W1 := ⟨_, rfl⟩
  have hs1 : W1.heap.size = w.heap.size + 2 := by rw [← hW1, World.size_alloc, World.size_alloc]
  have hL1 : W1.heap[w.heap.size + 1]? = some (.loop (rec .ready none)) := by
    rw [← hW1]
    have := World.alloc_heap_new (w.alloc (.deferred (some []))) (.loop (rec .ready none))
    rwa [World.size_alloc] at this
  have hb1 : Below w.heap.size w W1 := by rw [← hW1]; exact (((Below.refl _ w).alloc (Nat.le_refl _) _).alloc (by simp) _)
  have hK1 : W1.heap[w.heap.size]? = some (.deferred (some [])) := by
    rw [← hW1]
    exact (Below.heap_alloc _ _ _ (by simp)).trans (World.alloc_heap_new w _)
  refine ⟨w.heap.size + 1, [{ target := .collected w.heap.size, args := #[] }], W1, { target := .fn (.func gf) lb, args := #[.func (.yield (w.heap.size + 1)) #[] #[]] }, W1, gf,
    #[.func (.yield (w.heap.size + 1)) #[] #[]] ++ lb, W1, ?_, ?_, ?_, ?_, fun _ => h1, ?_⟩
  · rw [← hW1, hrec]; exact run_enterLoop_outer _ _ _ _ _
  · simp only [resolve, hg]
    simp [go_sem]
  · intro f' hf'
    simp [Target.leads] at hf'
    subst hf'
    exact hFg
  · simp [invoke, go_sem, eg]
  · refine (hseq (w.heap.size + 1)
      (fun pre W => I pre W ∧ W.heap[w.heap.size + 1]? = some (.loop (rec .ready none)) ∧ W.heap[w.heap.size]? = some (.deferred (some [])))
      W1 (hb0.trans (hb1.mono hb0.size)) ?_ ?_ ⟨hI _ _ _ h0 hb1, hL1, hK1⟩).mono ?_
    · rintro s A C ⟨hs, hl, hk⟩ hAC
      rw [hs1] at hAC
      exact ⟨hI _ _ _ hs (hAC.mono (by omega)), (hAC.block _ (by omega)).trans hl, (hAC.block _ (by omega)).trans hk⟩
    · rintro pre x A ⟨hi, hl, hk⟩ hok
      have hlt : w.heap.size + 1 < A.heap.size := (Array.getElem?_eq_some_iff.1 hl).1
      have hy := run_yield (P := P) (args := #[enc x]) hl (by rw [hrec]; simp [hps])
      rw [hrec] at hy
      refine ⟨fn, _, assign, body, hy, roundIn_of_wpIn hfn (hassign _ x A _ ⟨_, run_beginRound hl (by rw [hrec]), ?_⟩)⟩
      have hl2 : (A.putObj (w.heap.size + 1) (.loop { rec .ready none with state := .busy })).heap[w.heap.size + 1]? = some (.loop { rec .ready none with state := .busy }) := World.putObj_heap_same hlt
      have hk2 : (A.putObj (w.heap.size + 1) (.loop { rec .ready none with state := .busy })).heap[w.heap.size]? = some (.deferred (some [])) := (World.putObj_heap_other (by omega)).trans hk
      refine wpIn_mono (hbody _ pre x _ (hI _ _ _ hi (below_putObj _ _ (by omega))) hok (by rw [World.putObj_size]; omega)) ?_
      rintro e a3 W3 hp
      cases e with
      | normal =>
        obtain ⟨hk3, hi3⟩ := hp
        have hl3 := (hk3.block (w.heap.size + 1) (by omega) (by rw [World.putObj_size]; omega)).trans hl2
        have hd3 := (hk3.block w.heap.size (by omega) (by rw [World.putObj_size]; omega)).trans hk2
        have hr := run_endRound (P := P) none hl3
        rw [hrec] at hr
        refine ⟨_, _, hr, rfl, ⟨hI _ _ _ hi3 (below_putObj _ _ (by omega)), ?_, (World.putObj_heap_other (by omega)).trans hd3⟩, ?_⟩
        · rw [hrec]
          exact World.putObj_heap_same (Array.getElem?_eq_some_iff.1 hl3).1
        · rw [hs1]
          exact ((Keep.putObj _ _ (by omega)).trans (hk3.mono (by omega))).trans (Keep.putObj _ _ (by omega))
      | ret => exact hp.elim
      | exit id => exact hp.elim
      | goto t => exact hp.elim
      | panic ch => exact hp.elim
      | outgrown => exact hp.elim
    · rintro e W2 ⟨⟨v, rfl⟩, xs, hS, hi, hl, hk⟩
      have hr := run_endLoop (P := P) hl (by rw [hrec]; simp)
      rw [hrec] at hr
      refine ⟨none, _, hr, hdone xs _ hS (hI _ _ _ hi (below_putObj _ _ (by omega))) ?_ ((World.putObj_heap_other (by omega)).trans hk)⟩
      rw [World.putObj_size]
      have := (Array.getElem?_eq_some_iff.1 hk).1
      omega
open Go Go.RowKit Go.Proofs Lim
theorem trim_at (b n cap : Nat) (L : List Nat) (w : World) (hL : Blk w b L) (hn : n ≤ L.length) (hc1 : n ≤ cap) (hc2 : (cap : Int) ≤ 9223372036854775807) :
    Calls Tryz.prog 143 #[.slice (some ⟨b, 0, none⟩) n cap] w (fun e w' => ∃ m, e = .returned (.slice (some ⟨b, 0, none⟩) m m) ∧ m ≤ n ∧ val (L.take m) = val (L.take n) ∧ Trim (L.take m) ∧ w = w') := by
  have HR := Lib.hid hL
  clear hL
  go_enter Tryz.func143, Tryz.ntmps143
  go_wp2_with fail
  go_loop [3] (fun i => ∃ k, k ≤ n ∧ i = .int .i64 (k : Int) ∧ val (L.take k) = val (L.take n)) (fun i => (intOf i).toNat)
  case atStart => exact ⟨n, Nat.le_refl _, rfl, rfl⟩
  case round =>
    obtain ⟨k, hk, rfl, hval⟩ := hrel
    have HV := Lib.hid hval
    clear hval
    by_cases hk0 : 0 < k
    · obtain ⟨j, rfl⟩ : ∃ j, k = j + 1 := ⟨k - 1, by omega⟩
      have hcell : w.cell? ⟨b, j, none⟩ = some (u (L[j]?.getD 0)) := HR.out.cell j (by omega)
      by_cases hz : L[j]?.getD 0 = 0
      · have hzz := hz
        rw [hz] at hcell
        have HZ := Lib.hid hzz
        clear hz hzz
        go_wp2_with fail
        go_round
        case rel => exact ⟨j, by omega, rfl, by rw [← HV.out, val_take_zero (by omega) HZ.out]⟩
        case measure => simp [intOf]
      · have HZ := Lib.hid hz
        have hb : (((L[j]?.getD 0 : Nat) : Int) == 0) = false := by rw [beq_eq_false_iff_ne]; omega
        generalize hsg : L[j]?.getD 0 = s at *
        have H2 := Lib.hid hsg
        clear hsg hz
        go_wp2_with fail
        go_ret
        exact ⟨j + 1, rfl, hk, HV.out, trim_take (by omega) (by rw [H2.out]; intro h; subst h; simp at hb), rfl⟩
    · obtain rfl : k = 0 := by omega
      clear hk0
      go_wp2_with fail
      go_ret
      exact ⟨0, rfl, Nat.zero_le _, HV.out, fun h => absurd rfl h, rfl⟩
abbrev dval8 (d : Nat) : Value := .int .u8 (48 + (d : Int))
def DigRel (N B0 : Nat) (J : List Nat → World → Prop) (s : Value) (wr : World) : Prop :=
  ∃ pre bl m cap L, s = .slice (some ⟨bl, 0, none⟩) m cap ∧ m ≤ cap ∧ (cap : Int) ≤ 9223372036854775807 ∧ (m : Int) ≤ 1073741824 ∧ m ≤ L.length ∧ B0 ≤ bl ∧ Blk wr bl L ∧ Ok L ∧ Trim (L.take m) ∧ digs N = pre ++ digs (val (L.take m)) ∧ J pre wr
attribute [local go_sem] Oper.semAt_some
def GrpRel (N : Nat) (J : List Nat → World → Prop) (bl m : Nat) (L : List Nat) (s i : Value) (wr : World) : Prop :=
  ∃ pre G j, s = u G ∧ i = .int .i64 ((j : Nat) : Int) ∧ j ≤ 19 ∧ G < 10 ^ (19 - j) ∧ Blk wr bl L ∧ digs N = pre ++ digs (G + 10 ^ (19 - j) * val (L.take m)) ∧ J pre wr
theorem callsW {P : Program} {f : FuncId} {args : Array Value} {w : World} {R : Ending → World → Prop} {n : Nat} (h : Calls P f args w R) : CallsIn Fence.wide n P f args w R := callsIn_wide.2 h
set_option maxRecDepth 100000 in
set_option maxHeartbeats 2000000 in
theorem digits_own (n : Nat) (hn : 1 ≤ n) (b0 : Nat) (v : Value) (N k : Nat) (w : World) (hc : w.cell? ⟨b0, 0, none⟩ = some v) (hv : IsNat w v N) (hN : 0 < N) (hNk : N < B ^ k) (hk : (k : Int) ≤ 1073741824) :
    SeqOwn Fence.wide n Tryz.prog 145 #[.pointer (some ⟨b0, 0, none⟩)] dval8 (fun pre d => (pre ++ [d]) <+: digs N) (fun xs => xs = digs N) w := by
  intro l J W hW hJ hY h0
  have hc1 : W.cell? ⟨b0, 0, none⟩ = some v := (hW.cell (p := ⟨b0, 0, none⟩) (World.block_lt_of_cell? w _ hc)).trans hc
  have hv1 := hv.below hW (Nat.le_refl _)
  obtain ⟨xs, ⟨⟨xa, xc, rfl, h1, h2, hr⟩, ok⟩, ht, hval⟩ := hv1
  have hxl := IsNat.len ht hval hNk
  have hx0 : 0 < xs.length := by
    rcases xs with _ | ⟨x, xs⟩
    · simp [val] at hval; omega
    · simp
  obtain ⟨xb, xo, rfl, row⟩ := hr hx0
  have HCl := Lib.hid (clone_any ⟨xb, xo, none⟩ xs xc W (by omega) (fun j hj => by rw [Addr.add_lit]; exact row j hj))
  have HY := Lib.hid hY
  have HJ := Lib.hid hJ
  have H0 := Lib.hid h0
  have HOk := Lib.hid ok
  have HT := Lib.hid ht
  have HVal := Lib.hid hval
  clear hv hc hW hr row hY hJ h0 ok ht hval hNk
  refine callsIn_of_wp Tryz.func145 rfl trivial ?_ rfl
  simp only [Tryz.ntmps145, List.size_toArray, List.length_cons, List.length_nil, Nat.reduceAdd, Nat.reduceSub, Array.replicate_succ, Array.replicate_zero, List.push_toArray, List.append_toArray, List.nil_append, List.cons_append]
  gi_wp2
  refine ⟨trivial, (callsW HCl.out).mono ?_⟩
  rintro e W1 ⟨bl, cap, rfl, hbl, hB, hcc1, hcc2, hb⟩
  have H1 : Hid (DigRel N W.heap.size J (.slice (some ⟨bl, 0, none⟩) xs.length cap) W1) := by
    refine ⟨[], bl, xs.length, cap, xs, rfl, hcc1, ?_, by omega, Nat.le_refl _, hbl, hB, HOk.out, ?_, ?_, HJ.out _ _ _ H0.out hb⟩
    · unfold maxLen at hcc2; omega
    · rw [List.take_length]; exact HT.out
    · rw [List.take_length, HVal.out]; rfl
  clear hB hb hcc1 hcc2 hbl
  gi_wp2
  gi_loopw [3, 4, 14] (fun s _ _ wr => Hid (DigRel N W.heap.size J s wr)) (fun s _ _ wr => natOf wr s)
  case atStart => exact H1
  case round =>
    clear H1 HCl H0 HT HVal HOk
    obtain ⟨pre, bl, m, cap, L, rfl, hmc, hcm, hm30, hmL, hbl, hB, hO, hT, hdig, hJp⟩ := hrel.out
    clear hrel
    by_cases hm : 0 < m
    · have hmi : (0 : Int) < (m : Int) := by omega
      have HDv := Lib.hid (show Calls Tryz.prog 147 #[.slice (some ⟨bl, 0, none⟩) m cap, .int .u64 10000000000000000000] wr (DivPost wr bl m L 10000000000000000000) from divideByWord_any bl m cap L 10000000000000000000 wr hB hmL (by omega) (by decide) (by decide) hO)
      have HDig := Lib.hid hdig
      have HJp := Lib.hid hJp
      have HO' := Lib.hid hO
      have HIs : Hid (IsNat wr (.slice (some ⟨bl, 0, none⟩) m cap) (val (L.take m))) := by
        have hl : (L.take m).length = m := by rw [List.length_take]; omega
        have := Sl.of_blk hB hO 0 m cap (by omega) hmc (by unfold maxLen; omega)
        rw [List.drop_zero] at this
        exact ⟨L.take m, this, hT, rfl⟩
      have HPos : Hid (0 < val (L.take m)) := by
        have hl : (L.take m).length = m := by rw [List.length_take]; omega
        have := val_pos_of_trim hT (by intro e; rw [e] at hl; simp at hl; omega)
        exact Nat.lt_of_lt_of_le (Nat.pow_pos B_pos) this
      clear hB hO hT hdig hJp
      gi_wp2
      refine ⟨trivial, (callsW HDv.out).mono ?_⟩
      rintro e W2 ⟨G0, L', rfl, hOn, hB', hD⟩
      have hlen : L'.length = L.length := hD.len
      have HTr := Lib.hid (trim_at bl m cap L' W2 hB' (by omega) hmc (by omega))
      have HB' := Lib.hid hB'
      have HJ2 := Lib.hid (HJ.out _ _ _ HJp.out (hOn.below hbl))
      have HD' := Lib.hid hD
      clear hOn hB' hD HDv hlen
      gi_wp2
      refine ⟨trivial, (callsW HTr.out).mono ?_⟩
      rintro e w2' ⟨m', rfl, hm', hval', hT', rfl⟩
      have HV' := Lib.hid hval'
      have HT' := Lib.hid hT'
      have hsum : val (L.take m) = val (L'.take m') * 10000000000000000000 + G0 := by
        have := HD'.out.sum
        rw [List.drop_zero, List.drop_zero] at this
        rw [this, HV'.out]
      have hGlt : G0 < 10000000000000000000 := HD'.out.rest
      have HSum := Lib.hid hsum
      have HGlt := Lib.hid hGlt
      have HG : Hid (GrpRel N J bl m' L' (u G0) (.int .i64 0) W2) := by
        refine ⟨pre, G0, 0, rfl, rfl, by omega, hGlt, HB'.out, ?_, HJ2.out⟩
        rw [HDig.out, hsum]
        congr 2
        rw [Nat.add_comm, Nat.mul_comm]
      clear hval' hT' hsum hGlt HTr HJ2
      gi_wp2
      gi_loopw [4, 14] (fun s i wr' => Hid (GrpRel N J bl m' L' s i wr')) (fun _ i _ => 19 - (intOf i).toNat)
      case atStart => exact HG
      case round =>
        clear HG
        obtain ⟨pre1, G, j, rfl, rfl, hj, hG, hB1, hd1, hJ1⟩ := hrel.out
        clear hrel
        have HG := Lib.hid hG
        have HB1 := Lib.hid hB1
        have Hd1 := Lib.hid hd1
        have HJ1 := Lib.hid hJ1
        clear hG hB1 hd1 hJ1
        by_cases hj19 : j < 19
        · have hji : (j : Int) < 19 := by omega
          by_cases hz : G = 0 ∧ m' = 0
          · obtain ⟨hz1, hz2⟩ := hz
            have e1 : (((G : Nat) : Int) == 0) = true := by subst hz1; rfl
            have e2 : (((m' : Nat) : Int) == 0) = true := by subst hz2; rfl
            have hfin : pre1 = digs N := by
              rw [Hd1.out, hz1, hz2]
              simp [val, digs_zero]
            have HFin := Lib.hid hfin
            clear hz1 hz2 hfin
            gi_wp2
            refine ⟨fun _ h => (by cases h), ?_⟩
            gi_wp2
            refine bodyPost_ret (results_none rfl _ _ _) rfl ?_
            exact ⟨⟨_, rfl⟩, pre1, HFin.out, HJ1.out⟩
          · have hV0 : G + 10 ^ (19 - j) * val (L'.take m') ≠ 0 := by
              intro e
              have hG0 : G = 0 := by omega
              refine hz ⟨hG0, ?_⟩
              rcases Nat.eq_zero_or_pos m' with h | h
              · exact h
              · exfalso
                have hl : (L'.take m').length = m' := by rw [List.length_take, HD'.out.len]; omega
                have h1 := val_pos_of_trim HT'.out (by intro e; rw [e] at hl; simp at hl; omega)
                have h2 : 0 < B ^ ((L'.take m').length - 1) := Nat.pow_pos B_pos
                have h3 : 0 < 10 ^ (19 - j) := Nat.pow_pos (by omega)
                have h4 := Nat.mul_pos h3 (Nat.lt_of_lt_of_le h2 h1)
                omega
            have e10 : 10 ^ (19 - j) = 10 * 10 ^ (19 - (j + 1)) := by rw [show 19 - j = 19 - (j + 1) + 1 from by omega, Nat.pow_succ, Nat.mul_comm]
            have hmod : (G + 10 ^ (19 - j) * val (L'.take m')) % 10 = G % 10 := by rw [e10, Nat.mul_assoc, Nat.add_mul_mod_self_left]
            have hdiv : (G + 10 ^ (19 - j) * val (L'.take m')) / 10 = G / 10 + 10 ^ (19 - (j + 1)) * val (L'.take m') := by rw [e10, Nat.mul_assoc, Nat.add_mul_div_left _ _ (by omega)]
            have hd2 : digs N = (pre1 ++ [G % 10]) ++ digs (G / 10 + 10 ^ (19 - (j + 1)) * val (L'.take m')) := by
              rw [Hd1.out, digs_pos hV0, hmod, hdiv, List.append_assoc]
              rfl
            obtain ⟨fn, tmps, assign, body, hy, hR⟩ := HY.out pre1 (G % 10) wr HJ1.out ⟨_, hd2.symm⟩
            have HD2 := Lib.hid hd2
            have hG10 : G / 10 < 10 ^ (19 - (j + 1)) := by
              have := HG.out
              rw [e10] at this
              exact Nat.div_lt_of_lt_mul this
            have HG10 := Lib.hid hG10
            have HR := Lib.hid hR
            have hd10 : G % 10 < 10 := Nat.mod_lt _ (by omega)
            have t1 : Int.tmod ((G : Nat) : Int) 10 = ((G % 10 : Nat) : Int) := by rw [Int.tmod_eq_emod_of_nonneg (by omega)]; omega
            have t2 : ((G : Nat) : Int) % 10 = ((G % 10 : Nat) : Int) := by omega
            have t3 : Int.tdiv ((G : Nat) : Int) 10 = ((G / 10 : Nat) : Int) := by rw [Int.tdiv_eq_ediv_of_nonneg (by omega)]; omega
            have t4 : ((G : Nat) : Int) / 10 = ((G / 10 : Nat) : Int) := by omega
            have hGB : G < B := by
              refine Nat.lt_trans HG.out ?_
              exact Nat.lt_of_le_of_lt (Nat.pow_le_pow_right (by omega) (show 19 - j ≤ 19 by omega)) (by decide)
            have w1 : IntKind.u64.wrap ((G / 10 : Nat) : Int) = ((G / 10 : Nat) : Int) := wrap_nat (by omega)
            have w4 : IntKind.u64.wrap ((G % 10 : Nat) : Int) = ((G % 10 : Nat) : Int) := wrap_nat (by omega)
            clear hd2 hG10 hR hmod hdiv e10 hV0 hGB
            unfold dval8 at hy
            generalize G % 10 = d at *
            generalize G / 10 = G' at *
            have w2 : IntKind.u8.wrap ((d : Nat) : Int) = (d : Int) := by rw [IntKind.wrap_u8]; omega
            have w3 : IntKind.u8.wrap (48 + ((d : Nat) : Int)) = 48 + (d : Int) := by rw [IntKind.wrap_u8]; omega
            by_cases hG0 : G = 0
            · have e1 : (((G : Nat) : Int) == 0) = true := by subst hG0; rfl
              have e2 : (((m' : Nat) : Int) == 0) = false := by rw [beq_eq_false_iff_ne]; intro e; exact hz ⟨hG0, by omega⟩
              clear hz hG0
              gi_wp2
              refine HR.out.mono ?_
              rintro e W3 ⟨rfl, hJ3, hK3⟩
              have HJ3 := Lib.hid hJ3
              have HB3 := Lib.hid (HB1.out.of_block (hK3.block bl hbl HB1.out.lt))
              clear hJ3 hK3 HR hy
              gi_wp2
              go_roundw
              case rel => exact ⟨pre1 ++ [d], G', j + 1, rfl, by go_num, by omega, HG10.out, HB3.out, HD2.out, HJ3.out⟩
              case measure => simp [intOf]; omega
            · have e1 : (((G : Nat) : Int) == 0) = false := by rw [beq_eq_false_iff_ne]; omega
              clear hz hG0
              gi_wp2
              refine HR.out.mono ?_
              rintro e W3 ⟨rfl, hJ3, hK3⟩
              have HJ3 := Lib.hid hJ3
              have HB3 := Lib.hid (HB1.out.of_block (hK3.block bl hbl HB1.out.lt))
              clear hJ3 hK3 HR hy
              gi_wp2
              go_roundw
              case rel => exact ⟨pre1 ++ [d], G', j + 1, rfl, by go_num, by omega, HG10.out, HB3.out, HD2.out, HJ3.out⟩
              case measure => simp [intOf]; omega
        · obtain rfl : j = 19 := by omega
          clear hj19
          have HG0 : Hid (DigRel N W.heap.size J (.slice (some ⟨bl, 0, none⟩) m' m') wr) := by
            have h1 := HG.out
            have h2 := Hd1.out
            have h3 : G = 0 := by simpa using h1
            rw [h3] at h2
            have hl2 := HD'.out.len
            refine ⟨pre1, bl, m', m', L', rfl, Nat.le_refl _, by omega, by omega, by omega, hbl, HB1.out, HD'.out.ok, HT'.out, ?_, HJ1.out⟩
            simpa using h2
          have HIs' : Hid (IsNat wr (.slice (some ⟨bl, 0, none⟩) m' m') (val (L'.take m'))) := by
            have hl2 := HD'.out.len
            have hl : (L'.take m').length = m' := by rw [List.length_take]; omega
            have := Sl.of_blk HB1.out HD'.out.ok 0 m' m' (by omega) (Nat.le_refl _) (by unfold maxLen; omega)
            rw [List.drop_zero] at this
            exact ⟨L'.take m', this, HT'.out, rfl⟩
          clear HG
          gi_wp2
          go_roundw
          case rel => exact HG0
          case measure =>
            rw [natOf_eq HIs'.out, natOf_eq HIs.out]
            have := HSum.out
            have := HPos.out
            omega
    · obtain rfl : m = 0 := by omega
      have hfin : pre = digs N := by
        rw [hdig]
        simp [val, digs_zero]
      have HFin := Lib.hid hfin
      have HJp := Lib.hid hJp
      clear hB hO hT hdig hJp hfin hm
      gi_wp2
      refine bodyPost_end (results_none rfl _ _ _) rfl ?_
      exact ⟨⟨_, rfl⟩, pre, HFin.out, HJp.out⟩
open Go Go.RowKit Go.Proofs Lim
abbrev lo (neg : Bool) (n l : Nat) : Value := .agg #[.bool neg, u n, u l, .pointer none]
abbrev wi (neg : Bool) (p : Addr) : Value := .agg #[.bool neg, u 0, u 0, .pointer (some p)]
inductive Num (w : World) (v : Value) (neg : Bool) (n d : Nat) : Prop
  | low (l : Nat) (hv : v = lo neg n l) (hd : d = l + 1) (hn : n < B) (hdB : d < B)
  | wide (b : Nat) (x y : Value) (hv : v = wi neg ⟨b, 0, none⟩) (hx : w.cell? ⟨b, 0, none⟩ = some x) (hy : w.cell? ⟨b, 1, none⟩ = some y) (h1 : IsNat w x n) (h2 : IsNat w y d) (hB : B ≤ n ∨ B ≤ d) (h0 : 0 < n) (hd : 0 < d)
theorem Num.below {w w' : World} {v : Value} {neg : Bool} {n d : Nat} {k : Nat} (h : Num w v neg n d) (hb : Below k w w') (hk : w.heap.size ≤ k) : Num w' v neg n d := by
  cases h with
  | low l hv hd hn hdB => exact .low l hv hd hn hdB
  | wide b x y hv hx hy h1 h2 hB h0 hd =>
    have hlt := World.block_lt_of_cell? w _ hx
    exact .wide b x y hv ((hb.cell (p := ⟨b, 0, none⟩) (Nat.lt_of_lt_of_le hlt hk)).trans hx) ((hb.cell (p := ⟨b, 1, none⟩) (Nat.lt_of_lt_of_le hlt hk)).trans hy) (h1.below hb hk) (h2.below hb hk) hB h0 hd
def IsQ (w : World) (v : Value) (r : Rat) : Prop := Num w v (decide (r.num < 0)) r.num.natAbs r.den
theorem IsQ.below {w w' : World} {v : Value} {r : Rat} {k : Nat} (h : IsQ w v r) (hb : Below k w w') (hk : w.heap.size ≤ k) : IsQ w' v r := Num.below h hb hk
def Siz (r : Rat) (k : Nat) : Prop := r.num.natAbs < B ^ k ∧ r.den < B ^ k
def QNew (w : World) (r : Rat) (e : Ending) (w' : World) : Prop := ∃ v, e = .returned v ∧ IsQ w' v r ∧ Below w.heap.size w w'
def Val (w : World) (v : Value) (e : Ending) (w' : World) : Prop := e = .returned v ∧ Below w.heap.size w w'
theorem below1 (w : World) (o : Obj) : Below w.heap.size w (w.alloc o) := (Below.refl _ w).alloc (Nat.le_refl _) o
theorem small_any (neg : Bool) (n d : Nat) (hd : d < B) (w : World) :
    Calls Tryz.prog 86 #[.bool neg, u n, u d] w (Val w (lo (neg && !decide (n = 0)) n (difLo d 1))) := by
  have k0 : IntKind.u64.wrap ((d : Nat) - (1 : Int)) = ((difLo d 1 : Nat) : Int) := by
    have := dif_eq (x := d) (y := 1) hd (by decide)
    have h2 := difLo_lt d 1
    have h3 := difHi_le d 1
    rw [IntKind.wrap_u64]
    generalize difHi d 1 = c at *
    generalize difLo d 1 = b at *
    unfold B at *
    omega
  generalize difLo d 1 = l at *
  have k1 : (((n : Nat) : Int) != 0) = !decide (n = 0) := by rw [Bool.eq_iff_iff]; simp
  go_enter Tryz.func86, Tryz.ntmps86
  go_wp2_with fail
  · rename_i h
    subst h
    refine bodyPost_ret (v := lo (!decide (n = 0)) n l) (by simp [results, Tryz.results86, go_sem]) rfl ?_
    exact ⟨by simp, below1 w _⟩
  · rename_i h
    have h : neg = false := by simpa using h
    subst h
    refine bodyPost_ret (v := lo false n l) (by simp [results, Tryz.results86, go_sem]) rfl ?_
    exact ⟨by simp, below1 w _⟩
theorem bottom_any (neg : Bool) (n l : Nat) (p : Option Addr) (hd : l + 1 < B) (w : World) :
    Calls Tryz.prog 90 #[.agg #[.bool neg, u n, u l, .pointer p]] w (Val w (u (l + 1))) := by
  have k0 : IntKind.u64.wrap ((l : Nat) + (1 : Int)) = ((l + 1 : Nat) : Int) := by
    exact wrap_add (x := l) (y := 1) hd
  go_enter Tryz.func90, Tryz.ntmps90
  go_wp2_with fail
  go_ret
  exact ⟨rfl, below1 w _⟩
theorem timesWord_any (x y : Nat) (hx : x < B) (hy : y < B) (w : World) :
    Calls Tryz.prog 129 #[u x, u y] w (fun e w' => e = .returned (.tuple #[u (prodLo x y), .bool (decide (prodHi x y = 0))]) ∧ Below w.heap.size w w') := by
  go_enter Tryz.func129, Tryz.ntmps129
  go_wp2_with fail
  refine (mul64 x y hx hy w).mono ?_
  rintro e w' ⟨rfl, rfl⟩
  have k0 : (((prodHi x y : Nat) : Int) == 0) = decide (prodHi x y = 0) := by rw [Bool.eq_iff_iff]; simp
  go_wp2_with fail
  refine bodyPost_ret (v := .tuple #[u (prodLo x y), .bool (decide (prodHi x y = 0))]) (by simp [results, Tryz.results129, go_sem]) rfl ?_
  exact ⟨rfl, by first | exact Below.refl _ _ | exact below1 w _⟩
def addS (a : Bool) (x : Nat) (b : Bool) (y : Nat) : Bool × Nat := if a = b then (a, x + y) else if y ≤ x then (a, x - y) else (b, y - x)
def AddWPost (w : World) (neg : Bool) (t : Nat) (e : Ending) (w' : World) : Prop :=
  ∃ s, s < B ∧ ∃ ok : Bool, (ok = true → s = t) ∧ e = .returned (.tuple #[.bool neg, u s, .bool ok]) ∧ Below w.heap.size w w'
attribute [local go_sem] run_add64
theorem addWords_any (a b : Bool) (x y : Nat) (hx : x < B) (hy : y < B) (w : World) :
    Calls Tryz.prog 130 #[.bool a, u x, .bool b, u y] w (AddWPost w (addS a x b y).1 (addS a x b y).2) := by
  have k0 := sum_eq x y
  have k1 := sumHi_le hx hy
  have k2 := sumLo_lt x y
  have K0 := Lib.hid k0
  have k5 : (((sumHi x y : Nat) : Int) == 0) = decide (sumHi x y = 0) := by rw [Bool.eq_iff_iff]; simp
  clear k0
  by_cases hab : a = b
  · subst hab
    go_enter Tryz.func130, Tryz.ntmps130
    go_wp2_with fail
    refine bodyPost_ret (v := .tuple #[.bool a, u (sumLo x y), .bool (decide (sumHi x y = 0))]) (by simp [results, Tryz.results130, go_sem]) rfl ?_
    refine ⟨sumLo x y, k2, decide (sumHi x y = 0), ?_, by simp [addS], by first | exact Below.refl _ _ | exact below1 w _⟩
    intro h
    have h : sumHi x y = 0 := by simpa using h
    have := K0.out
    rw [h] at this
    simp [addS]
    omega
  · have hab' : (a == b) = false := by simpa using hab
    by_cases hc : y ≤ x
    · have k3 : IntKind.u64.wrap ((x : Int) - (y : Int)) = ((x - y : Nat) : Int) := wrap_sub hx hc
      go_enter Tryz.func130, Tryz.ntmps130
      go_wp2_with fail
      refine bodyPost_ret (v := .tuple #[.bool a, u (x - y), .bool true]) (by simp [results, Tryz.results130, go_sem]) rfl ?_
      exact ⟨x - y, by omega, true, by simp [addS, hab, hc], by simp [addS, hab, hc], by first | exact Below.refl _ _ | exact below1 w _⟩
    · have k3 : IntKind.u64.wrap ((y : Int) - (x : Int)) = ((y - x : Nat) : Int) := wrap_sub hy (by omega)
      go_enter Tryz.func130, Tryz.ntmps130
      go_wp2_with fail
      refine bodyPost_ret (v := .tuple #[.bool b, u (y - x), .bool true]) (by simp [results, Tryz.results130, go_sem]) rfl ?_
      exact ⟨y - x, by omega, true, by simp [addS, hab, hc], by simp [addS, hab, hc], by first | exact Below.refl _ _ | exact below1 w _⟩
theorem boxq {X W : World} {b : Nat} {a0 a1 a2 a3 : Value} (hb : Below X.heap.size X W) (h0 : X.cell? ⟨b, 0, none⟩ = some a0) (h1 : X.cell? ⟨b, 1, none⟩ = some a1) (h2 : X.cell? ⟨b, 2, none⟩ = some a2) (h3 : X.cell? ⟨b, 3, none⟩ = some a3) :
    W.cell? ⟨b, 0, none⟩ = some a0 ∧ W.cell? ⟨b, 1, none⟩ = some a1 ∧ W.cell? ⟨b, 2, none⟩ = some a2 ∧ W.cell? ⟨b, 3, none⟩ = some a3 := by
  have hlt := World.block_lt_of_cell? X _ h0
  exact ⟨(hb.cell (p := ⟨b, 0, none⟩) hlt).trans h0, (hb.cell (p := ⟨b, 1, none⟩) hlt).trans h1, (hb.cell (p := ⟨b, 2, none⟩) hlt).trans h2, (hb.cell (p := ⟨b, 3, none⟩) hlt).trans h3⟩
theorem box2 (w : World) (a0 a1 a2 a3 b0 b1 b2 b3 : Value) : ∃ W, W = (w.alloc (.cells #[a0, a1, a2, a3] 26)).alloc (.cells #[b0, b1, b2, b3] 26) ∧ Below w.heap.size w W ∧
    (W.cell? ⟨w.heap.size, 0, none⟩ = some a0 ∧ W.cell? ⟨w.heap.size, 1, none⟩ = some a1 ∧ W.cell? ⟨w.heap.size, 2, none⟩ = some a2 ∧ W.cell? ⟨w.heap.size, 3, none⟩ = some a3) ∧
    (W.cell? ⟨w.heap.size + 1, 0, none⟩ = some b0 ∧ W.cell? ⟨w.heap.size + 1, 1, none⟩ = some b1 ∧ W.cell? ⟨w.heap.size + 1, 2, none⟩ = some b2 ∧ W.cell? ⟨w.heap.size + 1, 3, none⟩ = some b3) := by
  refine ⟨_, rfl, (below1 w _).alloc (below1 w _).size _, ?_, ?_⟩
  · have h : ((w.alloc (.cells #[a0, a1, a2, a3] 26)).alloc (.cells #[b0, b1, b2, b3] 26)).heap[w.heap.size]? = some (.cells #[a0, a1, a2, a3] 26) := by
      show ((w.heap.push _).push _)[w.heap.size]? = _
      simp [Array.getElem?_push]
    unfold World.cell?
    rw [h]
    exact ⟨rfl, rfl, rfl, rfl⟩
  · have h : ((w.alloc (.cells #[a0, a1, a2, a3] 26)).alloc (.cells #[b0, b1, b2, b3] 26)).heap[w.heap.size + 1]? = some (.cells #[b0, b1, b2, b3] 26) := by
      show ((w.heap.push _).push _)[w.heap.size + 1]? = _
      rw [Array.getElem?_push, if_pos (by simp)]
    unfold World.cell?
    rw [h]
    exact ⟨rfl, rfl, rfl, rfl⟩
def Box (W : World) (b : Nat) (a0 a1 a2 a3 : Value) : Prop := W.heap[b]? = some (.cells #[a0, a1, a2, a3] 26 (0, 0))
theorem Box.below {W W' : World} {b k : Nat} {a0 a1 a2 a3 : Value} (h : Box W b a0 a1 a2 a3) (hb : Below k W W') (hk : W.heap.size ≤ k) : Box W' b a0 a1 a2 a3 :=
  (hb.block b (Nat.lt_of_lt_of_le (Array.getElem?_eq_some_iff.1 h).1 hk)).trans h
theorem Box.cells {W : World} {b : Nat} {a0 a1 a2 a3 : Value} (h : Box W b a0 a1 a2 a3) :
    W.cell? ⟨b, 0, none⟩ = some a0 ∧ W.cell? ⟨b, 1, none⟩ = some a1 ∧ W.cell? ⟨b, 2, none⟩ = some a2 ∧ W.cell? ⟨b, 3, none⟩ = some a3 := by
  unfold Box at h
  simp [World.cell?, h]
theorem Box.frozen {W : World} {b : Nat} {a0 a1 a2 a3 : Value} (h : Box W b a0 a1 a2 a3) (i : Nat) : W.frozen? ⟨b, i, none⟩ = false := by
  unfold Box at h
  simp [World.frozen?, h]
theorem boxz (w : World) : ∃ W, W = w.alloc (.cells #[.bool false, .int .u64 0, .int .u64 0, .pointer none] 26) ∧ Below w.heap.size w W ∧ Box W w.heap.size (.bool false) (.int .u64 0) (.int .u64 0) (.pointer none) ∧ W.heap.size = w.heap.size + 1 :=
  ⟨_, rfl, below1 w _, heap_alloc_new w _, by show (w.heap.push _).size = _; simp⟩
theorem box3 (w : World) (a0 a1 a2 a3 b0 b1 b2 b3 : Value) : ∃ W, W = ((w.alloc (.cells #[a0, a1, a2, a3] 26)).alloc (.cells #[b0, b1, b2, b3] 26)).alloc (.cells #[.bool false, .int .u64 0, .int .u64 0, .pointer none] 26) ∧ Below w.heap.size w W ∧
    (W.cell? ⟨w.heap.size, 0, none⟩ = some a0 ∧ W.cell? ⟨w.heap.size, 1, none⟩ = some a1 ∧ W.cell? ⟨w.heap.size, 2, none⟩ = some a2 ∧ W.cell? ⟨w.heap.size, 3, none⟩ = some a3) ∧
    (W.cell? ⟨w.heap.size + 1, 0, none⟩ = some b0 ∧ W.cell? ⟨w.heap.size + 1, 1, none⟩ = some b1 ∧ W.cell? ⟨w.heap.size + 1, 2, none⟩ = some b2 ∧ W.cell? ⟨w.heap.size + 1, 3, none⟩ = some b3) ∧
    Box W (w.heap.size + 1 + 1) (.bool false) (.int .u64 0) (.int .u64 0) (.pointer none) := by
  obtain ⟨W, hW, hb, hf, hg⟩ := box2 w a0 a1 a2 a3 b0 b1 b2 b3
  rw [← hW]
  have hs : W.heap.size = w.heap.size + 1 + 1 := by
    rw [hW]
    show ((w.heap.push _).push _).size = _
    simp
  have hb2 := below1 W (.cells #[.bool false, .int .u64 0, .int .u64 0, .pointer none] 26)
  refine ⟨_, rfl, hb.trans (hb2.mono hb.size), boxq hb2 hf.1 hf.2.1 hf.2.2.1 hf.2.2.2, boxq hb2 hg.1 hg.2.1 hg.2.2.1 hg.2.2.2, ?_⟩
  rw [← hs]
  exact heap_alloc_new W _
theorem chain {w W0 W1 : World} (h : Below w.heap.size w W0) (k : Below W0.drew.heap.size W0.drew W1) : Below w.heap.size w W1 :=
  h.drew.trans (k.mono h.drew.size)
theorem chain1 {w W0 W1 : World} (h : Below w.heap.size w W0) (k : Below W0.heap.size W0 W1) : Below w.heap.size w W1 :=
  h.trans (k.mono h.size)
theorem box1 (w : World) (a0 a1 a2 a3 : Value) : ∃ W, W = w.alloc (.cells #[a0, a1, a2, a3] 26) ∧ Below w.heap.size w W ∧
    (W.cell? ⟨w.heap.size, 0, none⟩ = some a0 ∧ W.cell? ⟨w.heap.size, 1, none⟩ = some a1 ∧ W.cell? ⟨w.heap.size, 2, none⟩ = some a2 ∧ W.cell? ⟨w.heap.size, 3, none⟩ = some a3) := by
  refine ⟨_, rfl, below1 w _, ?_⟩
  have h : (w.alloc (.cells #[a0, a1, a2, a3] 26)).heap[w.heap.size]? = some (.cells #[a0, a1, a2, a3] 26) := by
    show (w.heap.push _)[w.heap.size]? = _
    simp
  unfold World.cell?
  rw [h]
  exact ⟨rfl, rfl, rfl, rfl⟩
def firstOf (a c : Int) : Int := if a = 0 then c else a
theorem or_two (a c : Int) (b : Nat) (w : World) (h0 : w.cell? ⟨b, 0, none⟩ = some (.int .i64 a)) (h1 : w.cell? ⟨b, 1, none⟩ = some (.int .i64 c)) :
    Calls Tryz.prog 133 #[.slice (some ⟨b, 0, none⟩) 2 2] w (Val w (.int .i64 (firstOf a c))) := by
  obtain ⟨f, hf⟩ : ∃ f, f = firstOf a c := ⟨_, rfl⟩
  rw [← hf]
  have HF := Lib.hid hf
  clear hf
  go_enter Tryz.func133, Tryz.ntmps133
  go_wp2_with fail
  go_loopw [8] (fun i wr => wr = w ∧ (i = .int .i64 0 ∨ (i = .int .i64 1 ∧ a = 0) ∨ (i = .int .i64 2 ∧ a = 0 ∧ c = 0))) (fun i _ => 2 - (intOf i).toNat)
  case atStart => exact ⟨rfl, .inl rfl⟩
  case round =>
    obtain ⟨rfl, rfl | ⟨rfl, ha⟩ | ⟨rfl, ha, hc⟩⟩ := hrel
    · by_cases ha : a = 0
      · subst ha
        go_wp2_with fail
        go_roundw
        case rel => simp
        case measure => simp [intOf]
      · go_wp2_with fail
        go_ret
        have := HF.out
        rw [firstOf, if_neg ha] at this; rw [this]; exact ⟨rfl, Below.refl _ _⟩
    · subst ha
      by_cases hc : c = 0
      · subst hc
        go_wp2_with fail
        go_roundw
        case rel => simp
        case measure => simp [intOf]
      · go_wp2_with fail
        go_ret
        have := HF.out
        rw [firstOf, if_pos rfl] at this; rw [this]; exact ⟨rfl, Below.refl _ _⟩
    · subst ha hc
      go_wp2_with fail
      go_ret
      have := HF.out
      exact ⟨by rw [this]; rfl, Below.refl _ _⟩
theorem first_cmp (m n : Nat) : firstOf (cmpNat (m / B) (n / B)) (cmpNat (m % B) (n % B)) = cmpNat m n := by
  have h1 := Nat.div_add_mod m B
  have h2 := Nat.div_add_mod n B
  have h3 := Nat.mod_lt m B_pos
  have h4 := Nat.mod_lt n B_pos
  generalize m / B = q at *
  generalize n / B = r at *
  generalize m % B = s at *
  generalize n % B = t at *
  generalize B = b at *
  unfold firstOf cmpNat
  rcases Nat.lt_trichotomy q r with h | h | h
  · have : b * q + b ≤ b * r := by rw [← Nat.mul_succ]; exact Nat.mul_le_mul_left _ h
    have g1 : m < n := by omega
    have g2 : ¬ q = r := by omega
    simp [*]
  · subst h
    simp
    omega
  · have : b * r + b ≤ b * q := by rw [← Nat.mul_succ]; exact Nat.mul_le_mul_left _ h
    have g1 : n < m := by omega
    have g2 : ¬ q < r := by omega
    have g3 : ¬ m < n := by omega
    simp [*]
theorem compareSmall_any (neg1 neg2 : Bool) (n1 l1 n2 l2 : Nat) (h1 : n1 < B) (h2 : l1 + 1 < B) (h3 : n2 < B) (h4 : l2 + 1 < B) (w : World) :
    Calls Tryz.prog 97 #[lo neg1 n1 l1, lo neg2 n2 l2] w (Val w (.int .i64 (cmpNat (n1 * (l2 + 1)) (n2 * (l1 + 1))))) := by
  have HB2 := Lib.hid (fun W => bottom_any neg2 n2 l2 none h4 W)
  have HB1 := Lib.hid (fun W => bottom_any neg1 n1 l1 none h2 W)
  have HM1 := Lib.hid (fun W => mul64 n1 (l2 + 1) h1 h4 W)
  have HM2 := Lib.hid (fun W => mul64 n2 (l1 + 1) h3 h2 W)
  go_enter Tryz.func97, Tryz.ntmps97
  go_wp2_with fail
  obtain ⟨W0, hW0, hb0, ⟨f0, f1, f2, f3⟩, ⟨g0, g1, g2, g3⟩⟩ := box2 w (.bool neg1) (u n1) (u l1) (.pointer none) (.bool neg2) (u n2) (u l2) (.pointer none); rw [← hW0]; clear hW0
  go_region_held3 (fun w' => (w'.cell? ⟨w.heap.size, 0, none⟩ = some (.bool neg1) ∧ w'.cell? ⟨w.heap.size, 1, none⟩ = some (u n1) ∧ w'.cell? ⟨w.heap.size, 2, none⟩ = some (u l1) ∧ w'.cell? ⟨w.heap.size, 3, none⟩ = some (.pointer none)) ∧ (w'.cell? ⟨w.heap.size + 1, 0, none⟩ = some (.bool neg2) ∧ w'.cell? ⟨w.heap.size + 1, 1, none⟩ = some (u n2) ∧ w'.cell? ⟨w.heap.size + 1, 2, none⟩ = some (u l2) ∧ w'.cell? ⟨w.heap.size + 1, 3, none⟩ = some (.pointer none))) (go_keep) (first | ((with_reducible refine (HB2.out _).mono ?_); rintro e W1 ⟨rfl, hb⟩; (obtain ⟨_, _, _, _⟩ := boxq (b := w.heap.size) hb (by assumption) (by assumption) (by assumption) (by assumption); obtain ⟨_, _, _, _⟩ := boxq (b := w.heap.size + 1) hb (by assumption) (by assumption) (by assumption) (by assumption))) | ((with_reducible refine (HM1.out _).mono ?_); rintro e W2 ⟨rfl, rfl⟩))
  have HBa := Lib.hid (chain hb0 hb)
  clear hb0 hb
  have hfin : firstOf (cmpNat (prodHi n1 (l2 + 1)) (prodHi n2 (l1 + 1))) (cmpNat (prodLo n1 (l2 + 1)) (prodLo n2 (l1 + 1))) = cmpNat (n1 * (l2 + 1)) (n2 * (l1 + 1)) := first_cmp _ _
  have HFin := Lib.hid hfin
  clear hfin
  generalize prodHi n1 (l2 + 1) = hi1 at *
  generalize prodLo n1 (l2 + 1) = lo1 at *
  go_wp2_with fail
  go_region_held3 (fun w' => (w'.cell? ⟨w.heap.size, 0, none⟩ = some (.bool neg1) ∧ w'.cell? ⟨w.heap.size, 1, none⟩ = some (u n1) ∧ w'.cell? ⟨w.heap.size, 2, none⟩ = some (u l1) ∧ w'.cell? ⟨w.heap.size, 3, none⟩ = some (.pointer none)) ∧ (w'.cell? ⟨w.heap.size + 1, 0, none⟩ = some (.bool neg2) ∧ w'.cell? ⟨w.heap.size + 1, 1, none⟩ = some (u n2) ∧ w'.cell? ⟨w.heap.size + 1, 2, none⟩ = some (u l2) ∧ w'.cell? ⟨w.heap.size + 1, 3, none⟩ = some (.pointer none))) (go_keep) (first | ((with_reducible refine (HB1.out _).mono ?_); rintro e W3 ⟨rfl, hb⟩; (obtain ⟨_, _, _, _⟩ := boxq (b := w.heap.size) hb (by assumption) (by assumption) (by assumption) (by assumption); obtain ⟨_, _, _, _⟩ := boxq (b := w.heap.size + 1) hb (by assumption) (by assumption) (by assumption) (by assumption))) | ((with_reducible refine (HM2.out _).mono ?_); rintro e W4 ⟨rfl, rfl⟩))
  have HBb := Lib.hid (chain HBa.out hb)
  clear HBa hb
  generalize prodHi n2 (l1 + 1) = hi2 at *
  generalize prodLo n2 (l1 + 1) = lo2 at *
  go_wp2_with fail
  refine (compare_u64 hi1 hi2 _).mono ?_
  rintro e W5 ⟨rfl, rfl⟩
  go_wp2_with fail
  refine (compare_u64 lo1 lo2 _).mono ?_
  rintro e W6 ⟨rfl, rfl⟩
  go_wp2_with fail
  refine (or_two (cmpNat hi1 hi2) (cmpNat lo1 lo2) W3.heap.size _ (World.cell?_alloc_new ..) (World.cell?_alloc_new ..)).mono ?_
  rintro e W7 ⟨rfl, hb7⟩
  go_wp2_with fail
  go_ret
  rw [HFin.out]
  refine ⟨rfl, HBb.out.trans ((below1 W3 _).trans (hb7.mono (below1 W3 _).size) |>.mono HBb.out.size)⟩
open Go Go.RowKit Go.Proofs Lim
abbrev b8 (c : UInt8) : Value := .int .u8 (c.toNat : Int)
abbrev str (l : List UInt8) : Value := .string ⟨l.toArray⟩
def BBlk (w : World) (b : Nat) (l : List UInt8) : Prop := ∃ T : List Value, w.heap[b]? = some (.cells (l.map b8 ++ T).toArray 5 (0, 0))
theorem BBlk.lt {w : World} {b : Nat} {l : List UInt8} (h : BBlk w b l) : b < w.heap.size := let ⟨_, h⟩ := h; (Array.getElem?_eq_some_iff.1 h).1
theorem BBlk.cell {w : World} {b : Nat} {l : List UInt8} (h : BBlk w b l) (i : Nat) (hi : i < l.length) : w.cell? ⟨b, i, none⟩ = some (b8 l[i]) := by
  obtain ⟨T, h⟩ := h
  simp only [World.cell?, h]
  simp [hi, List.getElem?_append_left]
theorem BBlk.frozen {w : World} {b : Nat} {l : List UInt8} (h : BBlk w b l) (i : Nat) : w.frozen? ⟨b, i, none⟩ = false := by
  obtain ⟨T, h⟩ := h
  simp only [World.frozen?, h]
  simp
theorem BBlk.set {w : World} {b : Nat} {l : List UInt8} (h : BBlk w b l) (i : Nat) (c : UInt8) (hi : i < l.length) : BBlk (w.setCell ⟨b, i, none⟩ (b8 c)) b (l.set i c) := by
  obtain ⟨T, h⟩ := h
  refine ⟨T, ?_⟩
  simp only [World.setCell, Array.getElem?_modify]
  simp [h, List.map_set, List.set_append_left, hi]
theorem BBlk.of_block {w w' : World} {b : Nat} {l : List UInt8} (h : BBlk w b l) (hb : w'.heap[b]? = w.heap[b]?) : BBlk w' b l := let ⟨T, h⟩ := h; ⟨T, by rw [hb, h]⟩
theorem Boxed.of_block {W W' : World} {B : Nat} {t : TypeId} {v : Value} (h : Boxed W B t v) (hb : W'.heap[B]? = W.heap[B]?) : Boxed W' B t v := hb.trans h
theorem made_bytes (n : Nat) : (madeCells #[Value.int .u8 0] n).toList = (List.replicate n (0 : UInt8)).map b8 := by
  have h : (fun x => (#[Value.int .u8 0] : Array Value)[x % 1]!) = fun _ => b8 0 := by funext x; simp [Nat.mod_one]
  show ((Array.range n).map (fun x => (#[Value.int .u8 0] : Array Value)[x % 1]!)).toList = _
  rw [h]
  simp [List.map_const']
theorem info_u8 : (Tryz.prog.info? 5).map (fun i => (i.zero, i.size, i.bytes)) = some (some (.int .u8 0), 1, 1) := by kernel_rfl
theorem made_bblk {w w1 : World} {n : Nat} (hown : w1.ownsRow w.heap.size 5 1 (.slice (some ⟨w.heap.size, 0, none⟩) n n) n (madeCells #[Value.int .u8 0] n).toList)
    (hgrow : w.grownBy w1 none) : BBlk w1 w.heap.size (List.replicate n 0) ∧ Below w.heap.size w w1 := by
  rw [made_bytes] at hown
  obtain ⟨h1, ⟨h2, _⟩ | ⟨g, cap, cur, hv, hb, hg, hn, hm, hs, ht⟩⟩ := hown
  · cases h2
  · injection hv with hv1 hv2 hv3
    injection hv1 with hv1
    injection hv1 with hv1
    subst hv1
    refine ⟨⟨cur.toList.drop (n * 1), ?_⟩, (Below.refl _ w).grown hgrow (Nat.le_refl _) (by intro k hk; cases hk)⟩
    rw [hg, ← ht, List.take_append_drop]
theorem set_digit (j : Nat) (r : List UInt8) (c : UInt8) : (List.replicate (j + 1) (0 : UInt8) ++ r).set j c = List.replicate j 0 ++ (c :: r) := by
  rw [List.replicate_succ', List.append_assoc]
  rw [List.set_append_right _ _ (by simp)]
  simp
def soFar (pre : List Nat) : List UInt8 := (pre.map dbyte).reverse
theorem soFar_snoc (pre : List Nat) (d : Nat) : soFar (pre ++ [d]) = dbyte d :: soFar pre := by unfold soFar; simp
theorem soFar_len (pre : List Nat) : (soFar pre).length = pre.length := by unfold soFar; simp
theorem dbyte_b8 {d : Nat} (h : d < 10) : dval8 d = b8 (dbyte d) := by
  unfold dval8 b8
  rw [dbyte_toNat h]
  congr 1
def StrNew (w : World) (l : List UInt8) (e : Ending) (w' : World) : Prop := e = .returned (str l) ∧ Below w.heap.size w w'
theorem digits_call (v : Value) (n : Nat) (w : World) (h : IsNat w v n) :
    Calls Tryz.prog 126 #[v] w (fun e w' => e = .returned (.func (.func 145) #[] #[.pointer (some ⟨w.heap.size, 0, none⟩)]) ∧ w' = w.alloc (.cells #[v] 110)) := by
  obtain ⟨xs, ⟨⟨xa, xc, rfl, _⟩, _⟩, _⟩ := h
  go_enter Tryz.func126, Tryz.ntmps126
  go_wp2_with fail
  go_ret
  exact ⟨rfl, rfl⟩
theorem text_zero (v : Value) (w : World) (h : IsNat w v 0) : Calls Tryz.prog 85 #[v] w (StrNew w (ntext 0)) := by
  obtain ⟨ao, l, c, rfl, hl, hz, hB⟩ := h.form
  have hl0 : l = 0 := hz.2 rfl
  subst hl0
  have e : ntext 0 = [48] := rfl
  rw [e]
  clear h
  go_enter Tryz.func85, Tryz.ntmps85
  go_wp2_with fail
  go_ret
  exact ⟨rfl, Below.refl _ _⟩
theorem digits_len_le {n k m : Nat} (hk : n < B ^ k) (hm : k = m) : (digs n).length ≤ 20 * m := by
  subst hm
  refine digs_len (Nat.lt_of_lt_of_le hk ?_)
  rw [Nat.pow_mul]
  exact Nat.pow_le_pow_left (by decide) k
def TextInv (w : World) (bt N K : Nat) (pre : List Nat) (W : World) : Prop :=
  BBlk W w.heap.size (List.replicate (K - pre.length) 0 ++ soFar pre) ∧ Boxed W bt 100 (.slice (some ⟨w.heap.size, 0, none⟩) K K) ∧
    Boxed W (bt + 1) 3 (.int .i64 ((K - pre.length : Nat) : Int)) ∧ Below w.heap.size w W ∧ pre <+: digs N
theorem TextInv.lies (w : World) (bt N K B : Nat) (hB : w.heap.size < bt) (h2 : bt + 1 < B) : Lies B (TextInv w bt N K) := by
  rintro pre A C ⟨h1, hx, h3, h4, h5⟩ hb
  exact ⟨h1.of_block (hb.block _ (by omega)), Boxed.of_block hx (hb.block _ (by omega)), Boxed.of_block h3 (hb.block _ (by omega)), h4.trans (hb.mono (by omega)), h5⟩
theorem Keep.setCell (m : Nat) (A : World) (b o : Nat) (v : Value) (h : b < m) : Keep m A (A.setCell ⟨b, o, none⟩ v) :=
  ⟨by simp [World.setCell], fun k hk _ => Below.heap_setCell _ _ _ _ (by show k ≠ b; omega)⟩
theorem TextInv.step {w W : World} {bt N K j : Nat} {pre : List Nat} {d : Nat} (h : TextInv w bt N K pre W) (hb : w.heap.size < bt) (hj : K - pre.length = j + 1) (hd : d < 10) (hp : (pre ++ [d]) <+: digs N) :
    TextInv w bt N K (pre ++ [d]) ((W.setCell ⟨bt + 1, 0, none⟩ (.int .i64 (j : Int))).setCell ⟨w.heap.size, j, none⟩ (dval8 d)) := by
  obtain ⟨h1, h2, h3, h4, h5⟩ := h
  have e1 : K - (pre ++ [d]).length = j := by rw [List.length_append, List.length_singleton]; omega
  have o1 : Only (bt + 1) W (W.setCell ⟨bt + 1, 0, none⟩ (.int .i64 (j : Int))) := (Only.refl _ W).set 0 _
  have o2 : Only w.heap.size (W.setCell ⟨bt + 1, 0, none⟩ (.int .i64 (j : Int))) ((W.setCell ⟨bt + 1, 0, none⟩ (.int .i64 (j : Int))).setCell ⟨w.heap.size, j, none⟩ (dval8 d)) := (Only.refl _ _).set j _
  refine ⟨?_, ?_, ?_, ?_, hp⟩
  · have := BBlk.set (h1.of_block (o1.block w.heap.size (by omega))) j (dbyte d) (by rw [hj]; simp; omega)
    rw [← dbyte_b8 hd, hj, set_digit] at this
    rw [e1, soFar_snoc]
    exact this
  · exact Boxed.of_block (Boxed.of_block h2 (o1.block bt (by omega))) (o2.block bt (by omega))
  · rw [e1]
    exact Boxed.of_block (Boxed.set _ h3) (o2.block (bt + 1) (by omega))
  · exact (h4.trans (o1.below (by omega))).trans (o2.below (Nat.le_refl _))
attribute [local go_sem] Oper.semAt_some
set_option maxRecDepth 100000 in
set_option maxHeartbeats 2000000 in
theorem text_pos (v : Value) (N k : Nat) (w : World) (h : IsNat w v N) (h0 : 0 < N) (hk : N < B ^ k) (hk2 : (k : Int) ≤ 1073741824) : Calls Tryz.prog 85 #[v] w (StrNew w (ntext N)) := by
  have h' := h
  obtain ⟨xs, ⟨⟨xa, xc, rfl, _, _, _⟩, ok⟩, ht, hval⟩ := h'
  have hl := IsNat.len ht hval hk
  have hx0 : 0 < xs.length := by
    rcases xs with _ | ⟨x, xs⟩
    · simp [val] at hval; omega
    · simp
  have hdl : (digs N).length ≤ 20 * xs.length := digits_len_le (k := xs.length) (by rw [← hval]; exact val_lt ok) rfl
  obtain ⟨i0, hi, hz0, hz1, hz2⟩ := info_parts info_u8
  obtain ⟨w1, hmk, hown, hgrow⟩ := run_make_full (P := Tryz.prog) w w.heap.size 100 5 i0 (.int .u8 0) 1 Tryz.underlying100 hi hz0 hz1 .i64 .i64 (20 * xs.length) (by rw [hz2]; omega) (by unfold maxLen; omega) (Nat.le_refl _)
  have hblk := made_bblk (by rw [Nat.mul_one] at hown; exact hown) hgrow
  have hcast : ((20 * xs.length : Nat) : Int) = 20 * (xs.length : Int) := by omega
  rw [hcast] at hmk
  have e0 : (((xs.length : Nat) : Int) == 0) = false := by rw [beq_eq_false_iff_ne]; omega
  obtain ⟨K, hKdef⟩ : ∃ K, K = 20 * xs.length := ⟨_, rfl⟩
  rw [← hKdef] at hmk hblk hdl
  obtain ⟨hB1, hbel1⟩ := hblk
  have HB1 := Lib.hid hB1
  have HBel1 := Lib.hid hbel1
  have HH := Lib.hid h
  have HK := Lib.hid hKdef
  have HDL := Lib.hid hdl
  have HXL := Lib.hid hl
  have HNk := Lib.hid hk
  have hl30 : (xs.length : Int) ≤ 1073741824 := by omega
  have hK30 : (K : Int) ≤ 21474836480 := by omega
  clear hown hgrow hB1 hbel1 h hKdef hdl hcast hi hz0 hz1 hz2 ht hval ok hl hk
  refine callsIn_wide (n := 3) |>.1 ?_
  refine callsIn_of_wp_marks Tryz.func85 rfl trivial ?_ rfl
  simp only [Tryz.ntmps85, List.size_toArray, List.length_cons, List.length_nil, Nat.reduceAdd, Nat.reduceSub, Array.replicate_succ, Array.replicate_zero, List.push_toArray, List.append_toArray, List.nil_append, List.cons_append]
  gi_wp2
  have hbt : w.heap.size < w1.heap.size := HB1.out.lt
  have hT1 := Boxed.new w1 100 (.slice (some ⟨w.heap.size, 0, none⟩) K K)
  have hS1 := Boxed.new (w1.alloc (.cells #[.slice (some ⟨w.heap.size, 0, none⟩) K K] 100)) 3 (.int .i64 (K : Int))
  rw [World.size_alloc] at hS1
  have hI : TextInv w w1.heap.size N K [] ((w1.alloc (.cells #[.slice (some ⟨w.heap.size, 0, none⟩) K K] 100)).alloc (.cells #[.int .i64 (K : Int)] 3)) := by
    have b1 := below1 w1 (.cells #[.slice (some ⟨w.heap.size, 0, none⟩) K K] 100)
    have b2 := below1 (w1.alloc (.cells #[.slice (some ⟨w.heap.size, 0, none⟩) K K] 100)) (.cells #[.int .i64 (K : Int)] 3)
    have b3 := chain1 b1 b2
    refine ⟨?_, hT1.alloc _, ?_, chain1 HBel1.out b3, List.nil_prefix⟩
    · have : BBlk w1 w.heap.size (List.replicate (K - ([] : List Nat).length) 0 ++ soFar []) := by simpa [soFar] using HB1.out
      exact this.of_block (b3.block _ hbt)
    · simpa using hS1
  have hs2 : ((w1.alloc (.cells #[.slice (some ⟨w.heap.size, 0, none⟩) K K] 100)).alloc (.cells #[.int .i64 (K : Int)] 3)).heap.size = w1.heap.size + 1 + 1 := by rw [World.size_alloc, World.size_alloc]
  obtain ⟨W2, hW2⟩ : ∃ W2, (w1.alloc (.cells #[.slice (some ⟨w.heap.size, 0, none⟩) K K] 100)).alloc (.cells #[.int .i64 (K : Int)] 3) = W2 := ⟨_, rfl⟩
  rw [hW2] at hI hs2 ⊢
  have HI := Lib.hid hI
  have HS2 := Lib.hid hs2
  have HBt := Lib.hid hbt
  clear hW2 hI hs2 hT1 hS1 hmk hbt
  have hN2 := HH.out.below HI.out.2.2.2.1 (Nat.le_refl _)
  refine ⟨trivial, (callsW (digits_call _ N W2 hN2)).mono ?_⟩
  rintro e W3 ⟨rfl, rfl⟩
  have hI3 := TextInv.lies w w1.heap.size N K W2.heap.size HBt.out (by rw [HS2.out]; omega) _ _ _ HI.out (below1 W2 (.cells #[.slice xa xs.length xc] 110))
  have hc3 : (W2.alloc (.cells #[.slice xa xs.length xc] 110)).cell? ⟨W2.heap.size, 0, none⟩ = some (.slice xa xs.length xc) := World.cell?_alloc_new ..
  have hN3 := hN2.below (below1 W2 (.cells #[.slice xa xs.length xc] 110)) (Nat.le_refl _)
  have hs3 : (W2.alloc (.cells #[.slice xa xs.length xc] 110)).heap.size = w1.heap.size + 1 + 1 + 1 := by rw [World.size_alloc, HS2.out]
  rw [HS2.out] at hc3 ⊢
  obtain ⟨W3, hW3⟩ : ∃ W3, W2.alloc (.cells #[.slice xa xs.length xc] 110) = W3 := ⟨_, rfl⟩
  rw [hW3] at hI3 hc3 hN3 hs3 ⊢
  have HI3 := Lib.hid hI3
  have HN3 := Lib.hid hN3
  have HC3 := Lib.hid hc3
  have HS3 := Lib.hid hs3
  clear hW3 hI3 hN3 hc3 hs3 hN2 HI HS2
  generalize w1.heap.size = bt at *
  gi_wp2
  refine wpIn_rangeFunc_cells (w0 := W3) rfl (by decide) (gf := 145) (lb := #[.pointer (some ⟨bt + 1 + 1, 0, none⟩)]) rfl trivial (enters_of Tryz.func145 (by kernel_rfl) rfl)
    (digits_own (3 - 1) (by decide) (bt + 1 + 1) _ N k W3 HC3.out HN3.out h0 HNk.out hk2) (Below.refl _ _) rfl (TextInv w bt N K) (TextInv.lies w bt N K W3.heap.size HBt.out (by rw [HS3.out]; omega)) HI3.out
    (fun d => { tmps := #[.slice xa xs.length xc, undef, .string { data := #[] }, .pointer (some ⟨bt, 0, none⟩), .pointer (some ⟨bt + 1, 0, none⟩), dval8 d, .slice xa xs.length xc, .int .i64 (xs.length : Int), .bool false, .slice xa xs.length xc, .int .i64 (xs.length : Int), .int .i64 (20 * (xs.length : Int)), .slice (some ⟨w.heap.size, 0, none⟩) K K, .slice (some ⟨w.heap.size, 0, none⟩) K K, .int .i64 (K : Int), .slice xa xs.length xc, .func (.func 145) #[] #[.pointer (some ⟨bt + 1 + 1, 0, none⟩)], dval8 d, undef, undef, undef, undef, undef, undef, undef, undef, undef, undef], defers := [] }) ?assign ?body ?done
  case assign =>
    intro l d W K' hK'
    gi_wp2
    exact hK'
  case body =>
    intro l pre d W hI hok hsz
    have hlen : pre.length + 1 ≤ K := by
      have h1 := List.IsPrefix.length_le hok
      rw [List.length_append, List.length_singleton] at h1
      have := HDL.out
      omega
    obtain ⟨j, hj⟩ : ∃ j, K - pre.length = j + 1 := ⟨K - pre.length - 1, by omega⟩
    have hjK : (j : Int) < (K : Int) := by omega
    have hd10 : d < 10 := digs_lt N d (hok.subset (by simp))
    have HStep := Lib.hid (hI.step HBt.out hj hd10 hok)
    obtain ⟨h1, h2, h3, h4, h5⟩ := hI
    rw [hj] at h1 h3
    have c1 := h1.cell j (by simp; omega)
    have f1 := h1.frozen j
    have c2 := h2.cell
    have c3 : W.cell? ⟨bt + 1, 0, none⟩ = some (.int .i64 ((j : Int) + 1)) := h3.cell
    have f3 := h3.frozen
    have hbt := HBt.out
    have m1 : ¬ w.heap.size = bt + 1 := by omega
    have m2 : ¬ bt + 1 = w.heap.size := by omega
    have m3 : ¬ bt = bt + 1 := by omega
    have m4 : ¬ bt + 1 = bt := by omega
    have hW3 : bt + 1 < W3.heap.size := by rw [HS3.out]; omega
    have HK1 := Lib.hid (((Keep.setCell W3.heap.size W (bt + 1) 0 (.int .i64 (j : Int)) hW3).trans (Keep.setCell W3.heap.size _ w.heap.size j (dval8 d) (by omega))))
    clear h1 h2 h3 h4 h5 hok hj hlen hsz hW3 hd10
    gi_wp2
    exact ⟨HK1.out, HStep.out⟩
  case done =>
    intro ys W hS hI hlt hD
    subst hS
    obtain ⟨h1, h2, h3, h4, h5⟩ := hI
    have hso : soFar (digs N) = ntext N := by unfold soFar ntext; rw [if_neg (by omega)]
    rw [hso] at h1
    have hnl : (ntext N).length = (digs N).length := by rw [← hso, soFar_len]
    have hdl := HDL.out
    have hd0 : 0 < (digs N).length := by rw [digs_pos (by omega)]; simp
    obtain ⟨s, hs⟩ : ∃ s, s = K - (digs N).length := ⟨_, rfl⟩
    rw [← hs] at h1 h3
    have hlK : (ntext N).length = K - s := by omega
    have hsK : (s : Int) < (K : Int) := by omega
    have hsK1 : (s : Int) ≤ (K : Int) := by omega
    have hns : ¬ K = s := by omega
    have hconv := fun cap => run_convert_bytes_back (P := Tryz.prog) W 100 9 5 ⟨w.heap.size, s, none⟩ cap (ntext N) Tryz.underlying100 Tryz.underlying5 Tryz.underlying9 (fun j hj => by
      rw [Addr.add_lit, h1.cell (s + j) (by simp; omega)]
      have e : (List.replicate s (0 : UInt8) ++ ntext N)[s + j]'(by simp; omega) = (ntext N)[j] := by
        rw [List.getElem_append_right (by simp)]
        simp
      rw [e])
    rw [hlK] at hconv
    have hconv := hconv (K - s)
    have c2 := h2.cell
    have c3 : W.cell? ⟨bt + 1, 0, none⟩ = some (.int .i64 (s : Int)) := h3.cell
    have HH4 := Lib.hid h4
    have HD := Lib.hid hD
    have HSz := Lib.hid hlt
    clear h1 h2 h3 h4 h5 hso hnl hdl hd0 hs hlK hD hlt
    gi_wp2
    refine ⟨by simp, .inl ⟨_, _, rfl, run_takeDeferred HD.out, ?_⟩⟩
    refine ⟨_, results_tmp rfl _ _ _, rfl, HH4.out.trans (below_putObj _ _ ?_)⟩
    have := HBt.out
    rw [HS3.out]
    omega
theorem text_any (v : Value) (N k : Nat) (w : World) (h : IsNat w v N) (hk : N < B ^ k) (hk2 : (k : Int) ≤ 1073741824) : Calls Tryz.prog 85 #[v] w (StrNew w (ntext N)) := by
  rcases Nat.eq_zero_or_pos N with h0 | h0
  · subst h0; exact text_zero v w h
  · exact text_pos v N k w h h0 hk hk2
open Go Go.RowKit Go.Proofs Lim
def SmallPost (w : World) (neg : Bool) (num den : Nat) (e : Ending) (w' : World) : Prop :=
  ∃ a b c, ∃ ok : Bool, e = .returned (.tuple #[lo a b c, .bool ok]) ∧ (ok = true → num < B ∧ den < B ∧ 0 < den → a = (neg && !decide (num = 0)) ∧ b = num ∧ c + 1 = den) ∧ (ok = true → num < B ∧ den < B) ∧ Below w.heap.size w w'
theorem store4 {w W0 W : World} {b : Nat} (h0 : Below w.heap.size w W0) (h : Below W0.heap.size W0 W) (hb : w.heap.size ≤ b) (a0 a1 a2 a3 : Value) :
    Below w.heap.size w ((((W.setCell ⟨b, 0, none⟩ a0).setCell ⟨b, 1, none⟩ a1).setCell ⟨b, 2, none⟩ a2).setCell ⟨b, 3, none⟩ a3) :=
  (h0.trans (h.mono h0.size)).trans (((((Only.refl b W).set 0 a0).set 1 a1).set 2 a2).set 3 a3 |>.below hb)
theorem difLo_one {d : Nat} (hd : d < B) (h0 : 0 < d) : difLo d 1 + 1 = d := by
  have := dif_eq (x := d) (y := 1) hd (by decide)
  have h2 : difHi d 1 = 0 := by rw [difHi, if_neg (by omega)]
  rw [h2] at this
  omega
theorem fits {x y : Nat} (h : decide (prodHi x y = 0) = true) : prodLo x y = x * y := by
  have h : prodHi x y = 0 := by simpa using h
  have := prod_eq x y
  rw [h, Nat.mul_zero, Nat.add_zero] at this
  exact this
set_option maxHeartbeats 1600000 in
theorem timesSmall_any (neg1 neg2 : Bool) (n1 l1 n2 l2 : Nat) (h1 : n1 < B) (h2 : l1 + 1 < B) (h3 : n2 < B) (h4 : l2 + 1 < B) (w : World) (hG : Gr w) :
    Calls Tryz.prog 96 #[lo neg1 n1 l1, lo neg2 n2 l2] w (SmallPost w (neg1 != neg2) (n1 / Nat.gcd n1 (l2 + 1) * (n2 / Nat.gcd n2 (l1 + 1))) ((l1 + 1) / Nat.gcd n2 (l1 + 1) * ((l2 + 1) / Nat.gcd n1 (l2 + 1)))) := by
  have HB2 := Lib.hid (fun W => bottom_any neg2 n2 l2 none h4 W)
  have HB1 := Lib.hid (fun W => bottom_any neg1 n1 l1 none h2 W)
  have HC1 := Lib.hid (fun W (hW : Below w.heap.size w W) => commonWord_any n1 (l2 + 1) h1 h4 W (hG.below hW hG.size))
  have HC2 := Lib.hid (fun W (hW : Below w.heap.size w W) => commonWord_any n2 (l1 + 1) h3 h2 W (hG.below hW hG.size))
  have hg1 : 0 < Nat.gcd n1 (l2 + 1) := Nat.gcd_pos_of_pos_right _ (by omega)
  have hg2 : 0 < Nat.gcd n2 (l1 + 1) := Nat.gcd_pos_of_pos_right _ (by omega)
  clear hG
  have o1 : 0 < l1 + 1 := by omega
  have o2 : 0 < l2 + 1 := by omega
  generalize l1 + 1 = e1 at *
  generalize l2 + 1 = e2 at *
  generalize Nat.gcd n1 e2 = c1 at *
  generalize Nat.gcd n2 e1 = c2 at *
  have d1 : ((n1 : Nat) : Int) / ((c1 : Nat) : Int) = ((n1 / c1 : Nat) : Int) := by rw [Int.natCast_ediv]
  have d2 : ((n2 : Nat) : Int) / ((c2 : Nat) : Int) = ((n2 / c2 : Nat) : Int) := by rw [Int.natCast_ediv]
  have d3 : ((e1 : Nat) : Int) / ((c2 : Nat) : Int) = ((e1 / c2 : Nat) : Int) := by rw [Int.natCast_ediv]
  have d4 : ((e2 : Nat) : Int) / ((c1 : Nat) : Int) = ((e2 / c1 : Nat) : Int) := by rw [Int.natCast_ediv]
  have t1 : Int.tdiv ((n1 : Nat) : Int) ((c1 : Nat) : Int) = ((n1 / c1 : Nat) : Int) := by rw [Int.tdiv_eq_ediv_of_nonneg (by omega), Int.natCast_ediv]
  have t2 : Int.tdiv ((n2 : Nat) : Int) ((c2 : Nat) : Int) = ((n2 / c2 : Nat) : Int) := by rw [Int.tdiv_eq_ediv_of_nonneg (by omega), Int.natCast_ediv]
  have t3 : Int.tdiv ((e1 : Nat) : Int) ((c2 : Nat) : Int) = ((e1 / c2 : Nat) : Int) := by rw [Int.tdiv_eq_ediv_of_nonneg (by omega), Int.natCast_ediv]
  have t4 : Int.tdiv ((e2 : Nat) : Int) ((c1 : Nat) : Int) = ((e2 / c1 : Nat) : Int) := by rw [Int.tdiv_eq_ediv_of_nonneg (by omega), Int.natCast_ediv]
  have b1 : n1 / c1 < B := Nat.lt_of_le_of_lt (Nat.div_le_self _ _) h1
  have b2 : n2 / c2 < B := Nat.lt_of_le_of_lt (Nat.div_le_self _ _) h3
  have b3 : e1 / c2 < B := Nat.lt_of_le_of_lt (Nat.div_le_self _ _) h2
  have b4 : e2 / c1 < B := Nat.lt_of_le_of_lt (Nat.div_le_self _ _) h4
  generalize n1 / c1 = q1 at *
  generalize n2 / c2 = q2 at *
  generalize e1 / c2 = q3 at *
  generalize e2 / c1 = q4 at *
  have w1 : IntKind.u64.wrap ((q1 : Nat) : Int) = (q1 : Int) := wrap_nat b1
  have w2 : IntKind.u64.wrap ((q2 : Nat) : Int) = (q2 : Int) := wrap_nat b2
  have w3 : IntKind.u64.wrap ((q3 : Nat) : Int) = (q3 : Int) := wrap_nat b3
  have w4 : IntKind.u64.wrap ((q4 : Nat) : Int) = (q4 : Int) := wrap_nat b4
  have z1 : ¬ ((c1 : Nat) : Int) = 0 := by omega
  have z2 : ¬ ((c2 : Nat) : Int) = 0 := by omega
  have x1 : ¬ c1 = 0 := by omega
  have x2 : ¬ c2 = 0 := by omega
  have y1 : (((c1 : Nat) : Int) == 0) = false := by rw [beq_eq_false_iff_ne]; omega
  have y2 : (((c2 : Nat) : Int) == 0) = false := by rw [beq_eq_false_iff_ne]; omega
  have HT1 := Lib.hid (fun W => timesWord_any q1 q2 b1 b2 W)
  have HT2 := Lib.hid (fun W => timesWord_any q3 q4 b3 b4 W)
  clear hg1 hg2 b1 b2 b3 b4
  go_enter Tryz.func96, Tryz.ntmps96
  go_wp2_with fail
  obtain ⟨W0, hW0, hb0, ⟨f0, f1, f2, f3⟩, ⟨g0, g1, g2, g3⟩, hz⟩ := box3 w (.bool neg1) (u n1) (u l1) (.pointer none) (.bool neg2) (u n2) (u l2) (.pointer none); rw [← hW0]; clear hW0; have HZ := Lib.hid hz; have HW0 := Lib.hid hb0; have hb0 := Below.refl W0.heap.size W0; clear hz
  go_region_held3 (fun w' => (w'.cell? ⟨w.heap.size, 0, none⟩ = some (.bool neg1) ∧ w'.cell? ⟨w.heap.size, 1, none⟩ = some (u n1) ∧ w'.cell? ⟨w.heap.size, 2, none⟩ = some (u l1) ∧ w'.cell? ⟨w.heap.size, 3, none⟩ = some (.pointer none)) ∧ (w'.cell? ⟨w.heap.size + 1, 0, none⟩ = some (.bool neg2) ∧ w'.cell? ⟨w.heap.size + 1, 1, none⟩ = some (u n2) ∧ w'.cell? ⟨w.heap.size + 1, 2, none⟩ = some (u l2) ∧ w'.cell? ⟨w.heap.size + 1, 3, none⟩ = some (.pointer none))) (go_keep) (first | ((with_reducible refine (HB2.out _).mono ?_); rintro e W1 ⟨rfl, hb⟩; (obtain ⟨_, _, _, _⟩ := boxq (b := w.heap.size) hb (by assumption) (by assumption) (by assumption) (by assumption); obtain ⟨_, _, _, _⟩ := boxq (b := w.heap.size + 1) hb (by assumption) (by assumption) (by assumption) (by assumption))) | ((with_reducible refine (HC1.out _ (HW0.out.trans ((chain hb0 hb).mono HW0.out.size))).mono ?_); rintro e W2 ⟨rfl, rfl⟩))
  have HBa := Lib.hid (chain hb0 hb)
  clear hb0 hb
  go_wp2_with fail
  go_region_held3 (fun w' => (w'.cell? ⟨w.heap.size, 0, none⟩ = some (.bool neg1) ∧ w'.cell? ⟨w.heap.size, 1, none⟩ = some (u n1) ∧ w'.cell? ⟨w.heap.size, 2, none⟩ = some (u l1) ∧ w'.cell? ⟨w.heap.size, 3, none⟩ = some (.pointer none)) ∧ (w'.cell? ⟨w.heap.size + 1, 0, none⟩ = some (.bool neg2) ∧ w'.cell? ⟨w.heap.size + 1, 1, none⟩ = some (u n2) ∧ w'.cell? ⟨w.heap.size + 1, 2, none⟩ = some (u l2) ∧ w'.cell? ⟨w.heap.size + 1, 3, none⟩ = some (.pointer none))) (go_keep) (first | ((with_reducible refine (HB1.out _).mono ?_); rintro e W3 ⟨rfl, hb⟩; (obtain ⟨_, _, _, _⟩ := boxq (b := w.heap.size) hb (by assumption) (by assumption) (by assumption) (by assumption); obtain ⟨_, _, _, _⟩ := boxq (b := w.heap.size + 1) hb (by assumption) (by assumption) (by assumption) (by assumption))) | ((with_reducible refine (HC2.out _ (HW0.out.trans ((chain HBa.out hb).mono HW0.out.size))).mono ?_); rintro e W4 ⟨rfl, rfl⟩))
  have HBb := Lib.hid (chain HBa.out hb)
  clear HBa hb
  go_wp2_with fail
  go_region_held3 (fun w' => (w'.cell? ⟨w.heap.size, 0, none⟩ = some (.bool neg1) ∧ w'.cell? ⟨w.heap.size, 1, none⟩ = some (u n1) ∧ w'.cell? ⟨w.heap.size, 2, none⟩ = some (u l1) ∧ w'.cell? ⟨w.heap.size, 3, none⟩ = some (.pointer none)) ∧ (w'.cell? ⟨w.heap.size + 1, 0, none⟩ = some (.bool neg2) ∧ w'.cell? ⟨w.heap.size + 1, 1, none⟩ = some (u n2) ∧ w'.cell? ⟨w.heap.size + 1, 2, none⟩ = some (u l2) ∧ w'.cell? ⟨w.heap.size + 1, 3, none⟩ = some (.pointer none))) (go_keep) (((with_reducible refine (HT1.out _).mono ?_); rintro e W5 ⟨rfl, hb⟩; (obtain ⟨_, _, _, _⟩ := boxq (b := w.heap.size) hb (by assumption) (by assumption) (by assumption) (by assumption); obtain ⟨_, _, _, _⟩ := boxq (b := w.heap.size + 1) hb (by assumption) (by assumption) (by assumption) (by assumption))))
  have HBc := Lib.hid (chain HBb.out hb)
  clear HBb hb
  have HF1 := Lib.hid (fits (x := q1) (y := q2))
  have HL1 := Lib.hid (prodLo_lt q1 q2)
  generalize prodLo q1 q2 = num at *
  generalize decide (prodHi q1 q2 = 0) = fits1 at *
  go_wp2_with fail
  go_region_held3 (fun w' => (w'.cell? ⟨w.heap.size, 0, none⟩ = some (.bool neg1) ∧ w'.cell? ⟨w.heap.size, 1, none⟩ = some (u n1) ∧ w'.cell? ⟨w.heap.size, 2, none⟩ = some (u l1) ∧ w'.cell? ⟨w.heap.size, 3, none⟩ = some (.pointer none)) ∧ (w'.cell? ⟨w.heap.size + 1, 0, none⟩ = some (.bool neg2) ∧ w'.cell? ⟨w.heap.size + 1, 1, none⟩ = some (u n2) ∧ w'.cell? ⟨w.heap.size + 1, 2, none⟩ = some (u l2) ∧ w'.cell? ⟨w.heap.size + 1, 3, none⟩ = some (.pointer none))) (go_keep) (first | ((with_reducible refine (HB1.out _).mono ?_); rintro e W6 ⟨rfl, hb⟩; (obtain ⟨_, _, _, _⟩ := boxq (b := w.heap.size) hb (by assumption) (by assumption) (by assumption) (by assumption); obtain ⟨_, _, _, _⟩ := boxq (b := w.heap.size + 1) hb (by assumption) (by assumption) (by assumption) (by assumption))) | ((with_reducible refine (HB2.out _).mono ?_); rintro e W7 ⟨rfl, hb'⟩; (obtain ⟨_, _, _, _⟩ := boxq (b := w.heap.size) hb' (by assumption) (by assumption) (by assumption) (by assumption); obtain ⟨_, _, _, _⟩ := boxq (b := w.heap.size + 1) hb' (by assumption) (by assumption) (by assumption) (by assumption))) | ((with_reducible refine (HT2.out _).mono ?_); rintro e W8 ⟨rfl, hb''⟩; (obtain ⟨_, _, _, _⟩ := boxq (b := w.heap.size) hb'' (by assumption) (by assumption) (by assumption) (by assumption); obtain ⟨_, _, _, _⟩ := boxq (b := w.heap.size + 1) hb'' (by assumption) (by assumption) (by assumption) (by assumption))))
  have HBd := Lib.hid ((chain HBc.out hb).trans ((hb'.trans (hb''.mono hb'.size)).mono (chain HBc.out hb).size))
  clear HBc hb hb' hb''
  have HF2 := Lib.hid (fits (x := q3) (y := q4))
  have HL2 := Lib.hid (prodLo_lt q3 q4)
  generalize prodLo q3 q4 = den at *
  generalize decide (prodHi q3 q4 = 0) = fits2 at *
  clear f0 f1 f2 f3 g0 g1 g2 g3
  go_wp2_with fail
  refine (small_any (!neg1 == neg2) num den HL2.out _).mono ?_
  rintro e W9 ⟨rfl, hb⟩
  (obtain ⟨_, _, _, _⟩ := boxq (b := w.heap.size) hb (by assumption) (by assumption) (by assumption) (by assumption); obtain ⟨_, _, _, _⟩ := boxq (b := w.heap.size + 1) hb (by assumption) (by assumption) (by assumption) (by assumption))
  have HBe := Lib.hid (HBd.out.trans (hb.mono HBd.out.size))
  clear HBd hb
  have HD := Lib.hid (difLo_one (d := den) HL2.out)
  generalize hsg : (!neg1 == neg2 && !decide (num = 0)) = sg
  generalize difLo den 1 = ll at *
  have hz := HZ.out.below HBe.out (Nat.le_refl _)
  have zf := hz.frozen
  obtain ⟨z0, z1, z2, z3⟩ := hz.cells
  have zf0 := zf 0
  have zf1 := zf 1
  have zf2 := zf 2
  have zf3 := zf 3
  clear zf hz
  go_wp2_with fail
  · rename_i hf
    have hf : fits1 = true := by simpa using hf
    refine bodyPost_ret (v := .tuple #[lo sg num ll, .bool fits2]) (by simp [results, Tryz.results96, go_sem, z0, z1, z2, z3]) rfl ?_
    refine ⟨sg, num, ll, fits2, rfl, ?_, ?_, store4 HW0.out HBe.out (by omega) _ _ _ _⟩
    · intro hok hh
      have f1 := HF1.out hf
      have f2 := HF2.out hok
      subst f1 f2
      exact ⟨hsg.symm, rfl, HD.out hh.2.2⟩
    · intro hok
      rw [← HF1.out hf, ← HF2.out hok]
      exact ⟨HL1.out, HL2.out⟩
  · rename_i hf
    have hf : fits1 = false := by simpa using hf
    subst hf
    refine bodyPost_ret (v := .tuple #[lo sg num ll, .bool false]) (by simp [results, Tryz.results96, go_sem, z0, z1, z2, z3]) rfl ?_
    refine ⟨sg, num, ll, false, rfl, ?_, ?_, store4 HW0.out HBe.out (by omega) _ _ _ _⟩ <;> intro hok <;> exact absurd hok (by simp)
open Go Go.RowKit Go.Proofs Lim
def sumS (neg1 : Bool) (n1 d1 : Nat) (neg2 : Bool) (n2 d2 : Nat) : Bool × Nat := addS neg1 (n1 * (d2 / Nat.gcd d1 d2)) neg2 (n2 * (d1 / Nat.gcd d1 d2))
def sumX (neg1 : Bool) (n1 d1 : Nat) (neg2 : Bool) (n2 d2 : Nat) : Nat := Nat.gcd (sumS neg1 n1 d1 neg2 n2 d2).2 (Nat.gcd d1 d2)
def sumN (neg1 : Bool) (n1 d1 : Nat) (neg2 : Bool) (n2 d2 : Nat) : Nat := (sumS neg1 n1 d1 neg2 n2 d2).2 / sumX neg1 n1 d1 neg2 n2 d2
def sumD (neg1 : Bool) (n1 d1 : Nat) (neg2 : Bool) (n2 d2 : Nat) : Nat := d1 / Nat.gcd d1 d2 * (d2 / sumX neg1 n1 d1 neg2 n2 d2)
set_option maxHeartbeats 3200000 in
theorem plusSmall_any (neg1 neg2 : Bool) (n1 l1 n2 l2 : Nat) (h1 : n1 < B) (h2 : l1 + 1 < B) (h3 : n2 < B) (h4 : l2 + 1 < B) (w : World) (hG : Gr w) :
    Calls Tryz.prog 91 #[lo neg1 n1 l1, lo neg2 n2 l2] w (SmallPost w (sumS neg1 n1 (l1 + 1) neg2 n2 (l2 + 1)).1 (sumN neg1 n1 (l1 + 1) neg2 n2 (l2 + 1)) (sumD neg1 n1 (l1 + 1) neg2 n2 (l2 + 1))) := by
  have HB2 := Lib.hid (fun W => bottom_any neg2 n2 l2 none h4 W)
  have HB1 := Lib.hid (fun W => bottom_any neg1 n1 l1 none h2 W)
  have HC1 := Lib.hid (fun W (hW : Below w.heap.size w W) => commonWord_any (l1 + 1) (l2 + 1) h2 h4 W (hG.below hW hG.size))
  have hg1 : 0 < Nat.gcd (l1 + 1) (l2 + 1) := Nat.gcd_pos_of_pos_right _ (by omega)
  have hgB : Nat.gcd (l1 + 1) (l2 + 1) < B := Nat.lt_of_le_of_lt (Nat.gcd_le_left _ (by omega)) h2
  have o1 : 0 < l1 + 1 := by omega
  have o2 : 0 < l2 + 1 := by omega
  obtain ⟨NEG, hNEG⟩ : ∃ x, x = (sumS neg1 n1 (l1 + 1) neg2 n2 (l2 + 1)).1 := ⟨_, rfl⟩
  obtain ⟨NUM, hNUM⟩ : ∃ x, x = sumN neg1 n1 (l1 + 1) neg2 n2 (l2 + 1) := ⟨_, rfl⟩
  obtain ⟨DEN, hDEN⟩ : ∃ x, x = sumD neg1 n1 (l1 + 1) neg2 n2 (l2 + 1) := ⟨_, rfl⟩
  rw [← hNEG, ← hNUM, ← hDEN]
  unfold sumN sumX sumS at hNUM
  unfold sumD sumX sumS at hDEN
  unfold sumS at hNEG
  have HNEG := Lib.hid hNEG
  have HNUM := Lib.hid hNUM
  have HDEN := Lib.hid hDEN
  clear hNEG hNUM hDEN
  generalize l1 + 1 = e1 at *
  generalize l2 + 1 = e2 at *
  generalize Nat.gcd e1 e2 = c at *
  have t1 : Int.tdiv ((e1 : Nat) : Int) ((c : Nat) : Int) = ((e1 / c : Nat) : Int) := by rw [Int.tdiv_eq_ediv_of_nonneg (by omega), Int.natCast_ediv]
  have t2 : Int.tdiv ((e2 : Nat) : Int) ((c : Nat) : Int) = ((e2 / c : Nat) : Int) := by rw [Int.tdiv_eq_ediv_of_nonneg (by omega), Int.natCast_ediv]
  have b1 : e1 / c < B := Nat.lt_of_le_of_lt (Nat.div_le_self _ _) h2
  have b2 : e2 / c < B := Nat.lt_of_le_of_lt (Nat.div_le_self _ _) h4
  generalize e1 / c = q1 at *
  generalize e2 / c = q2 at *
  have w1 : IntKind.u64.wrap ((q1 : Nat) : Int) = (q1 : Int) := wrap_nat b1
  have w2 : IntKind.u64.wrap ((q2 : Nat) : Int) = (q2 : Int) := wrap_nat b2
  have x1 : ¬ c = 0 := by omega
  have HT1 := Lib.hid (fun W => timesWord_any n1 q2 h1 b2 W)
  have HT2 := Lib.hid (fun W => timesWord_any n2 q1 h3 b1 W)
  have B1 := Lib.hid b1
  have HHG := Lib.hid hG
  have HE := Lib.hid h4
  have HgB := Lib.hid hgB
  have Hg1 := Lib.hid hg1
  clear b1 b2 hG h4 hgB hg1 h1 h2 h3 o1 o2
  go_enter Tryz.func91, Tryz.ntmps91
  go_wp2_with fail
  obtain ⟨W0, hW0, hb0, ⟨f0, f1, f2, f3⟩, ⟨g0, g1, g2, g3⟩, hz⟩ := box3 w (.bool neg1) (u n1) (u l1) (.pointer none) (.bool neg2) (u n2) (u l2) (.pointer none); rw [← hW0]; clear hW0; have HZ := Lib.hid hz; have HW0 := Lib.hid hb0; have hb0 := Below.refl W0.heap.size W0; clear hz
  go_region_held3 (fun w' => (w'.cell? ⟨w.heap.size, 0, none⟩ = some (.bool neg1) ∧ w'.cell? ⟨w.heap.size, 1, none⟩ = some (u n1) ∧ w'.cell? ⟨w.heap.size, 2, none⟩ = some (u l1) ∧ w'.cell? ⟨w.heap.size, 3, none⟩ = some (.pointer none)) ∧ (w'.cell? ⟨w.heap.size + 1, 0, none⟩ = some (.bool neg2) ∧ w'.cell? ⟨w.heap.size + 1, 1, none⟩ = some (u n2) ∧ w'.cell? ⟨w.heap.size + 1, 2, none⟩ = some (u l2) ∧ w'.cell? ⟨w.heap.size + 1, 3, none⟩ = some (.pointer none))) (go_keep) (first | ((with_reducible refine (HB1.out _).mono ?_); rintro e W1 ⟨rfl, hb⟩; (obtain ⟨_, _, _, _⟩ := boxq (b := w.heap.size) hb (by assumption) (by assumption) (by assumption) (by assumption); obtain ⟨_, _, _, _⟩ := boxq (b := w.heap.size + 1) hb (by assumption) (by assumption) (by assumption) (by assumption))) | ((with_reducible refine (HB2.out _).mono ?_); rintro e W2 ⟨rfl, hb'⟩; (obtain ⟨_, _, _, _⟩ := boxq (b := w.heap.size) hb' (by assumption) (by assumption) (by assumption) (by assumption); obtain ⟨_, _, _, _⟩ := boxq (b := w.heap.size + 1) hb' (by assumption) (by assumption) (by assumption) (by assumption))) | ((with_reducible refine (HC1.out _ (chain1 HW0.out (chain1 (chain hb0 hb) hb'))).mono ?_); rintro e W3 ⟨rfl, rfl⟩))
  have HBa := Lib.hid (chain1 (chain hb0 hb) hb')
  clear hb0 hb hb' f0 f1 f2 f3 g0 g1 g2 g3
  go_wp2_with fail
  go_region_held3 (fun w' => (w'.cell? ⟨w.heap.size, 0, none⟩ = some (.bool neg1) ∧ w'.cell? ⟨w.heap.size, 1, none⟩ = some (u n1) ∧ w'.cell? ⟨w.heap.size, 2, none⟩ = some (u l1) ∧ w'.cell? ⟨w.heap.size, 3, none⟩ = some (.pointer none)) ∧ (w'.cell? ⟨w.heap.size + 1, 0, none⟩ = some (.bool neg2) ∧ w'.cell? ⟨w.heap.size + 1, 1, none⟩ = some (u n2) ∧ w'.cell? ⟨w.heap.size + 1, 2, none⟩ = some (u l2) ∧ w'.cell? ⟨w.heap.size + 1, 3, none⟩ = some (.pointer none))) (go_keep) (first | ((with_reducible refine (HB2.out _).mono ?_); rintro e W4 ⟨rfl, hb⟩; (obtain ⟨_, _, _, _⟩ := boxq (b := w.heap.size) hb (by assumption) (by assumption) (by assumption) (by assumption); obtain ⟨_, _, _, _⟩ := boxq (b := w.heap.size + 1) hb (by assumption) (by assumption) (by assumption) (by assumption))) | ((with_reducible refine (HT1.out _).mono ?_); rintro e W5 ⟨rfl, hb'⟩; (obtain ⟨_, _, _, _⟩ := boxq (b := w.heap.size) hb' (by assumption) (by assumption) (by assumption) (by assumption); obtain ⟨_, _, _, _⟩ := boxq (b := w.heap.size + 1) hb' (by assumption) (by assumption) (by assumption) (by assumption))))
  have HBb := Lib.hid (chain1 (chain HBa.out hb) hb')
  clear HBa hb hb'
  have HF1 := Lib.hid (fits (x := n1) (y := q2))
  have HL1 := Lib.hid (prodLo_lt n1 q2)
  generalize prodLo n1 q2 = left at *
  generalize decide (prodHi n1 q2 = 0) = fits1 at *
  go_wp2_with fail
  go_region_held3 (fun w' => (w'.cell? ⟨w.heap.size, 0, none⟩ = some (.bool neg1) ∧ w'.cell? ⟨w.heap.size, 1, none⟩ = some (u n1) ∧ w'.cell? ⟨w.heap.size, 2, none⟩ = some (u l1) ∧ w'.cell? ⟨w.heap.size, 3, none⟩ = some (.pointer none)) ∧ (w'.cell? ⟨w.heap.size + 1, 0, none⟩ = some (.bool neg2) ∧ w'.cell? ⟨w.heap.size + 1, 1, none⟩ = some (u n2) ∧ w'.cell? ⟨w.heap.size + 1, 2, none⟩ = some (u l2) ∧ w'.cell? ⟨w.heap.size + 1, 3, none⟩ = some (.pointer none))) (go_keep) (first | ((with_reducible refine (HB1.out _).mono ?_); rintro e W6 ⟨rfl, hb⟩; (obtain ⟨_, _, _, _⟩ := boxq (b := w.heap.size) hb (by assumption) (by assumption) (by assumption) (by assumption); obtain ⟨_, _, _, _⟩ := boxq (b := w.heap.size + 1) hb (by assumption) (by assumption) (by assumption) (by assumption))) | ((with_reducible refine (HT2.out _).mono ?_); rintro e W7 ⟨rfl, hb'⟩; (obtain ⟨_, _, _, _⟩ := boxq (b := w.heap.size) hb' (by assumption) (by assumption) (by assumption) (by assumption); obtain ⟨_, _, _, _⟩ := boxq (b := w.heap.size + 1) hb' (by assumption) (by assumption) (by assumption) (by assumption))))
  have HBc := Lib.hid (chain1 (chain HBb.out hb) hb')
  clear HBb hb hb'
  have HF2 := Lib.hid (fits (x := n2) (y := q1))
  have HL2 := Lib.hid (prodLo_lt n2 q1)
  generalize prodLo n2 q1 = right at *
  generalize decide (prodHi n2 q1 = 0) = fits2 at *
  have HA := Lib.hid (fun W => addWords_any neg1 neg2 left right HL1.out HL2.out W)
  go_wp2_with fail
  refine (HA.out _).mono ?_
  rintro e W8 ⟨t, htB, fits3, ht, rfl, hb⟩
  (obtain ⟨_, _, _, _⟩ := boxq (b := w.heap.size) hb (by assumption) (by assumption) (by assumption) (by assumption); obtain ⟨_, _, _, _⟩ := boxq (b := w.heap.size + 1) hb (by assumption) (by assumption) (by assumption) (by assumption))
  have HBd := Lib.hid (chain1 HBc.out hb)
  have HtB := Lib.hid htB
  have HF3 := Lib.hid ht
  clear HBc hb HA htB ht
  generalize hsg0 : (addS neg1 left neg2 right).1 = sg0 at *
  have HS0 := Lib.hid hsg0
  clear hsg0
  have hx1 : 0 < Nat.gcd t c := Nat.gcd_pos_of_pos_right _ Hg1.out
  have hxB : Nat.gcd t c < B := Nat.lt_of_le_of_lt (Nat.gcd_le_right _ Hg1.out) HgB.out
  have HC2 := Lib.hid (fun W (hW : Below w.heap.size w W) => commonWord_any t c HtB.out HgB.out W (HHG.out.below hW HHG.out.size))
  obtain ⟨ex, hex⟩ : ∃ ex, ex = Nat.gcd t c := ⟨_, rfl⟩
  rw [← hex] at hx1 hxB HC2
  have HX := Lib.hid hex
  clear hex
  have t3 : Int.tdiv ((t : Nat) : Int) ((ex : Nat) : Int) = ((t / ex : Nat) : Int) := by rw [Int.tdiv_eq_ediv_of_nonneg (by omega), Int.natCast_ediv]
  have t4 : Int.tdiv ((e2 : Nat) : Int) ((ex : Nat) : Int) = ((e2 / ex : Nat) : Int) := by rw [Int.tdiv_eq_ediv_of_nonneg (by omega), Int.natCast_ediv]
  have b3 : t / ex < B := Nat.lt_of_le_of_lt (Nat.div_le_self _ _) HtB.out
  have b4 : e2 / ex < B := Nat.lt_of_le_of_lt (Nat.div_le_self _ _) HE.out
  obtain ⟨num, hnum⟩ : ∃ num, num = t / ex := ⟨_, rfl⟩
  obtain ⟨q5, hq5⟩ : ∃ q5, q5 = e2 / ex := ⟨_, rfl⟩
  rw [← hnum] at t3 b3
  rw [← hq5] at t4 b4
  have d3 : ((t : Nat) : Int) / ((ex : Nat) : Int) = (num : Int) := by rw [hnum, Int.natCast_ediv]
  have HN := Lib.hid hnum
  have HQ5 := Lib.hid hq5
  clear hnum hq5
  have w3 : IntKind.u64.wrap ((num : Nat) : Int) = (num : Int) := wrap_nat b3
  have w4 : IntKind.u64.wrap ((q5 : Nat) : Int) = (q5 : Int) := wrap_nat b4
  have x2 : ¬ ex = 0 := by omega
  have x3 : ¬ ((ex : Nat) : Int) = 0 := by omega
  have HT3 := Lib.hid (fun W => timesWord_any q1 q5 B1.out b4 W)
  have HB3 := Lib.hid b3
  clear hx1 hxB b3 b4
  go_wp2_with fail
  refine (HC2.out _ (chain1 HW0.out HBd.out)).mono ?_
  rintro e W9 ⟨rfl, rfl⟩
  go_wp2_with fail
  go_region_held3 (fun w' => (w'.cell? ⟨w.heap.size, 0, none⟩ = some (.bool neg1) ∧ w'.cell? ⟨w.heap.size, 1, none⟩ = some (u n1) ∧ w'.cell? ⟨w.heap.size, 2, none⟩ = some (u l1) ∧ w'.cell? ⟨w.heap.size, 3, none⟩ = some (.pointer none)) ∧ (w'.cell? ⟨w.heap.size + 1, 0, none⟩ = some (.bool neg2) ∧ w'.cell? ⟨w.heap.size + 1, 1, none⟩ = some (u n2) ∧ w'.cell? ⟨w.heap.size + 1, 2, none⟩ = some (u l2) ∧ w'.cell? ⟨w.heap.size + 1, 3, none⟩ = some (.pointer none))) (go_keep) (first | ((with_reducible refine (HB1.out _).mono ?_); rintro e W9 ⟨rfl, hb⟩; (obtain ⟨_, _, _, _⟩ := boxq (b := w.heap.size) hb (by assumption) (by assumption) (by assumption) (by assumption); obtain ⟨_, _, _, _⟩ := boxq (b := w.heap.size + 1) hb (by assumption) (by assumption) (by assumption) (by assumption))) | ((with_reducible refine (HB2.out _).mono ?_); rintro e W10 ⟨rfl, hb'⟩; (obtain ⟨_, _, _, _⟩ := boxq (b := w.heap.size) hb' (by assumption) (by assumption) (by assumption) (by assumption); obtain ⟨_, _, _, _⟩ := boxq (b := w.heap.size + 1) hb' (by assumption) (by assumption) (by assumption) (by assumption))) | ((with_reducible refine (HT3.out _).mono ?_); rintro e W11 ⟨rfl, hb''⟩; (obtain ⟨_, _, _, _⟩ := boxq (b := w.heap.size) hb'' (by assumption) (by assumption) (by assumption) (by assumption); obtain ⟨_, _, _, _⟩ := boxq (b := w.heap.size + 1) hb'' (by assumption) (by assumption) (by assumption) (by assumption))))
  have HBe := Lib.hid (chain1 (chain1 (chain HBd.out hb) hb') hb'')
  clear HBd hb hb' hb''
  have HF4 := Lib.hid (fits (x := q1) (y := q5))
  have HL4 := Lib.hid (prodLo_lt q1 q5)
  generalize prodLo q1 q5 = den at *
  generalize decide (prodHi q1 q5 = 0) = fits4 at *
  have hok : fits1 = true → fits2 = true → fits3 = true → fits4 = true → NEG = sg0 ∧ NUM = num ∧ DEN = den := by
    intro k1 k2 k3 k4
    have f1 := HF1.out k1
    have f2 := HF2.out k2
    have f3 := HF3.out k3
    have f4 := HF4.out k4
    subst f1 f2
    have f3 := f3.symm
    refine ⟨?_, ?_, ?_⟩
    · rw [HNEG.out, HS0.out]
    · rw [HNUM.out, f3, HN.out, HX.out]
    · rw [HDEN.out, f3, f4, HQ5.out, HX.out]
  have HOK := Lib.hid hok
  clear hok HF1 HF2 HF3 HF4 HN HX HQ5 HS0 HNEG HNUM HDEN HT3 HC2 HT1 HT2
  go_wp2_with fail
  refine (small_any sg0 num den HL4.out _).mono ?_
  rintro e W12 ⟨rfl, hb⟩
  (obtain ⟨_, _, _, _⟩ := boxq (b := w.heap.size) hb (by assumption) (by assumption) (by assumption) (by assumption); obtain ⟨_, _, _, _⟩ := boxq (b := w.heap.size + 1) hb (by assumption) (by assumption) (by assumption) (by assumption))
  have HBf := Lib.hid (chain1 HBe.out hb)
  clear HBe hb
  have HD := Lib.hid (difLo_one (d := den) HL4.out)
  generalize hsg : (sg0 && !decide (num = 0)) = sg
  have HSG := Lib.hid hsg
  clear hsg
  generalize difLo den 1 = ll at *
  have hz := HZ.out.below HBf.out (Nat.le_refl _)
  have zf := hz.frozen
  obtain ⟨z0, z1, z2, z3⟩ := hz.cells
  have zf0 := zf 0
  have zf1 := zf 1
  have zf2 := zf 2
  have zf3 := zf 3
  clear zf hz
  go_wp2_with fail
  · rename_i k1 k2 k3
    refine bodyPost_ret (v := .tuple #[lo sg num ll, .bool fits4]) (by simp [results, Tryz.results91, go_sem, z0, z1, z2, z3]) rfl ?_
    refine ⟨sg, num, ll, fits4, rfl, ?_, ?_, store4 HW0.out HBf.out (by omega) _ _ _ _⟩
    · intro k4 hh
      obtain ⟨e1, e2, e3⟩ := HOK.out (by simpa using k1) (by simpa using k2) (by simpa using k3) k4
      subst e1 e2 e3
      exact ⟨HSG.out.symm, rfl, HD.out hh.2.2⟩
    · intro k4
      obtain ⟨e1, e2, e3⟩ := HOK.out (by simpa using k1) (by simpa using k2) (by simpa using k3) k4
      rw [e2, e3]
      exact ⟨HB3.out, HL4.out⟩
  · refine bodyPost_ret (v := .tuple #[lo sg num ll, .bool false]) (by simp [results, Tryz.results91, go_sem, z0, z1, z2, z3]) rfl ?_
    refine ⟨sg, num, ll, false, rfl, ?_, ?_, store4 HW0.out HBf.out (by omega) _ _ _ _⟩ <;> intro hok <;> exact absurd hok (by simp)
  · refine bodyPost_ret (v := .tuple #[lo sg num ll, .bool false]) (by simp [results, Tryz.results91, go_sem, z0, z1, z2, z3]) rfl ?_
    refine ⟨sg, num, ll, false, rfl, ?_, ?_, store4 HW0.out HBf.out (by omega) _ _ _ _⟩ <;> intro hok <;> exact absurd hok (by simp)
  · refine bodyPost_ret (v := .tuple #[lo sg num ll, .bool false]) (by simp [results, Tryz.results91, go_sem, z0, z1, z2, z3]) rfl ?_
    refine ⟨sg, num, ll, false, rfl, ?_, ?_, store4 HW0.out HBf.out (by omega) _ _ _ _⟩ <;> intro hok <;> exact absurd hok (by simp)
open Go Go.RowKit Go.Proofs Lim
theorem Num.form {w : World} {v : Value} {neg : Bool} {n d : Nat} (h : Num w v neg n d) : ∃ a b p, v = .agg #[.bool neg, u a, u b, .pointer p] ∧ a < B := by
  cases h with
  | low l hv hd hn hdB => exact ⟨_, _, _, hv, hn⟩
  | wide b x y hv hx hy h1 h2 hB h0 hd => exact ⟨_, _, _, hv, B_pos⟩
theorem Typed.other {W W' : World} {R : Nat} {v : Value} {cs : Array Value} {t : TypeId} {fr : Nat × Nat} (h : Typed W v) (hR : W.heap[R]? = some (.cells cs t fr)) (ht : t ≠ 23) (ho : Only R W W') : Typed W' v := by
  intro a n c e hn
  obtain ⟨cs', fr', hc⟩ := h a n c e hn
  have hne : a.block ≠ R := by
    intro e2
    rw [e2, hR] at hc
    injection hc with hc
    injection hc with _ hc
    exact ht hc
  exact ⟨cs', fr', (ho.block _ hne).trans hc⟩
theorem IsNat.only {W W' : World} {R : Nat} {v : Value} {n : Nat} (hR : Box W R (.bool false) (.int .u64 0) (.int .u64 0) (.pointer none)) (h : IsNat W v n) (ho : Only R W W') : IsNat W' v n := by
  obtain ⟨xs, ⟨⟨ao, c, rfl, h1, h2, hr⟩, ok, typ⟩, ht, hv⟩ := h
  refine ⟨xs, ⟨⟨ao, c, rfl, h1, h2, fun hn => ?_⟩, ok, typ.other hR (by decide) ho⟩, ht, hv⟩
  obtain ⟨b, off, rfl, row⟩ := hr hn
  refine ⟨b, off, rfl, ?_⟩
  by_cases hb : b = R
  · exfalso
    subst hb
    have hl := row (xs.length - 1) (by omega)
    have hne : xs ≠ [] := by intro e; subst e; simp at hn
    have hz : xs[xs.length - 1]?.getD 0 ≠ 0 := by
      have := ht hne
      rw [List.getLast_eq_getElem] at this
      rw [List.getElem?_eq_getElem (by omega)]
      exact this
    generalize xs[xs.length - 1]?.getD 0 = z at *
    unfold Box at hR
    rw [World.cell?, hR] at hl
    simp only at hl
    generalize off + (xs.length - 1) = i at hl
    rcases i with _ | _ | _ | _ | i <;> simp at hl <;> omega
  · exact ho.row hb row
theorem Num.only {W W' : World} {R : Nat} {v : Value} {neg : Bool} {n d : Nat} (hR : Box W R (.bool false) (.int .u64 0) (.int .u64 0) (.pointer none)) (h : Num W v neg n d) (ho : Only R W W') : Num W' v neg n d := by
  cases h with
  | low l hv hd hn hdB => exact .low l hv hd hn hdB
  | wide b x y hv hx hy h1 h2 hB h0 hd =>
    have hb : b ≠ R := by
      intro e
      subst e
      rw [hR.cells.1] at hx
      obtain ⟨_, _, _, rfl, _⟩ := h1.form
      injection hx with hx
      exact absurd hx (by simp)
    exact .wide b x y hv ((ho.cell (p := ⟨b, 0, none⟩) hb).trans hx) ((ho.cell (p := ⟨b, 1, none⟩) hb).trans hy) (h1.only hR ho) (h2.only hR ho) hB h0 hd
theorem one_new (w : World) (x : Nat) (h0 : 0 < x) (hx : x < B) : IsNat (w.alloc (.cells #[u x] 23)) (.slice (some ⟨w.heap.size, 0, none⟩) 1 1) x := by
  have hB : Blk (w.alloc (.cells #[u x] 23)) w.heap.size [x] := Blk.new w [x]
  have hok : Ok [x] := by intro y hy; simp at hy; omega
  refine ⟨[x], Sl.of_blk hB hok 0 1 1 (by simp) (by simp) (by unfold maxLen; omega), ?_, by simp [val]⟩
  intro h
  simp
  omega
def FracPost (w : World) (neg : Bool) (n d : Nat) (e : Ending) (w' : World) : Prop :=
  ∃ v, e = .returned v ∧ Num w' v (neg && !decide (n = 0)) n (if n = 0 then 1 else d) ∧ Below w.heap.size w w'
theorem FracPost.stored {w W : World} {R : Nat} {v : Value} {neg : Bool} {n d : Nat} {a0 a1 a2 a3 : Value} (hR : Box W R (.bool false) (.int .u64 0) (.int .u64 0) (.pointer none))
    (h : Num W v (neg && !decide (n = 0)) n (if n = 0 then 1 else d)) (hb : Below w.heap.size w W) (hw : w.heap.size ≤ R) :
    FracPost w neg n d (.returned v) ((((W.setCell ⟨R, 0, none⟩ a0).setCell ⟨R, 1, none⟩ a1).setCell ⟨R, 2, none⟩ a2).setCell ⟨R, 3, none⟩ a3) := by
  have ho := ((((Only.refl R W).set 0 a0).set 1 a1).set 2 a2).set 3 a3
  exact ⟨v, rfl, h.only hR ho, hb.trans (ho.below hw)⟩
theorem wide_new {w : World} {neg : Bool} {x y : Value} {n d : Nat} (o : Obj) (h1 : IsNat w x n) (h2 : IsNat w y d) (hn : 0 < n) (hd : 0 < d) (hB : ¬ (n < B ∧ d < B)) :
    FracPost w neg n d (.returned (wi neg ⟨w.heap.size + 1, 0, none⟩)) ((w.alloc o).alloc (.cells #[x, y] 126)) := by
  have hb1 := below1 w o
  have hb2 := below1 (w.alloc o) (.cells #[x, y] 126)
  have hb := chain1 hb1 hb2
  have hs : (w.alloc o).heap.size = w.heap.size + 1 := by
    show (w.heap.push _).size = _
    simp
  refine ⟨_, rfl, ?_, hb⟩
  have hn' : ¬ n = 0 := by omega
  rw [if_neg hn', show (neg && !decide (n = 0)) = neg from by simp [hn']]
  refine Num.wide (w.heap.size + 1) x y rfl ?_ ?_ (h1.below hb (Nat.le_refl _)) (h2.below hb (Nat.le_refl _)) (by omega) hn hd
  · rw [← hs]; exact World.cell?_alloc_new ..
  · rw [← hs]; exact World.cell?_alloc_new ..
theorem fraction_any (neg : Bool) (v1 v2 : Value) (n d : Nat) (w : World) (h1 : IsNat w v1 n) (h2 : IsNat w v2 d) (h0 : 0 < d) :
    Calls Tryz.prog 122 #[.bool neg, v1, v2] w (FracPost w neg n d) := by
  by_cases hn : n = 0
  · subst hn
    obtain ⟨ao, l, c, rfl, hl, hz, hB⟩ := h1.form
    have hl0 : l = 0 := hz.2 rfl
    subst hl0
    obtain ⟨bo, m, c', rfl, _, _, _⟩ := h2.form
    go_enter Tryz.func122, Tryz.ntmps122
    go_wp2_with fail
    refine bodyPost_ret (v := lo false 0 0) (by simp [results, Tryz.results122, go_sem]) rfl ?_
    exact ⟨_, rfl, by simpa using Num.low 0 rfl rfl B_pos (by decide), below1 w _⟩
  · have hn0 : 0 < n := Nat.pos_of_ne_zero hn
    by_cases hw : n < B ∧ d < B
    · obtain ⟨b1, o1, c1, rfl, f1⟩ := h1.limb hn0 hw.1
      obtain ⟨b2, o2, c2, rfl, f2⟩ := h2.limb h0 hw.2
      have HS := Lib.hid (fun W => small_any neg n d hw.2 W)
      have HD := Lib.hid (difLo_one hw.2 h0)
      have HN := Lib.hid hn
      have HW := Lib.hid hw
      have H0 := Lib.hid h0
      clear hn hw h1 h2 h0 hn0
      generalize hsg : (neg && !decide (n = 0)) = sg at *
      generalize difLo d 1 = ll at *
      go_enter Tryz.func122, Tryz.ntmps122
      go_wp2_with fail
      obtain ⟨W0, hW0, hb0, hz, hs⟩ := boxz w; rw [← hW0]; clear hW0; have HZ := Lib.hid hz; have HW0 := Lib.hid hb0; have hb0 := Below.refl W0.heap.size W0; clear hz
      clear hs
      have p1 : ¬ b1 = w.heap.size := Nat.ne_of_lt (World.block_lt_of_cell? w _ f1)
      have p2 : ¬ b2 = w.heap.size := Nat.ne_of_lt (World.block_lt_of_cell? w _ f2)
      have p3 : ¬ w.heap.size = b1 := fun h => p1 h.symm
      have p4 : ¬ w.heap.size = b2 := fun h => p2 h.symm
      have HG1 := Lib.hid f1
      have HG2 := Lib.hid f2
      have f1 : W0.cell? ⟨b1, o1, none⟩ = some (u n) := (HW0.out.cell (p := ⟨b1, o1, none⟩) (World.block_lt_of_cell? w _ f1)).trans f1
      have f2 : W0.cell? ⟨b2, o2, none⟩ = some (u d) := (HW0.out.cell (p := ⟨b2, o2, none⟩) (World.block_lt_of_cell? w _ f2)).trans f2
      go_region_held3 (fun w' => w'.cell? ⟨b1, o1, none⟩ = some (u n) ∧ w'.cell? ⟨b2, o2, none⟩ = some (u d)) (go_keep) (((with_reducible refine (HS.out _).mono ?_); rintro e W1 ⟨rfl, hb⟩; have hb1 := chain hb0 hb; have i1 := (hb1.cell (p := ⟨b1, o1, none⟩) (World.block_lt_of_cell? W0 _ f1)).trans f1; have i2 := (hb1.cell (p := ⟨b2, o2, none⟩) (World.block_lt_of_cell? W0 _ f2)).trans f2; (have hz := HZ.out.below hb1 (Nat.le_refl _); have zf := hz.frozen; obtain ⟨z0, z1, z2, z3⟩ := hz.cells; have zf0 := zf 0; have zf1 := zf 1; have zf2 := zf 2; have zf3 := zf 3; clear zf hz)))
      go_wp2_with fail
      refine bodyPost_ret (v := lo sg n ll) (by simp [results, Tryz.results122, go_sem, z0, z1, z2, z3]) rfl ?_
      refine ⟨_, rfl, ?_, store4 HW0.out hb1 (Nat.le_refl _) _ _ _ _⟩
      rw [hsg, if_neg HN.out]
      exact Num.low ll rfl HD.out.symm HW.out.1 HW.out.2
    · obtain ⟨ao, l, c, rfl, hl, hz, hB⟩ := h1.form
      obtain ⟨bo, m, c', rfl, hm, hz', hB'⟩ := h2.form
      have HH1 := Lib.hid h1
      have HH2 := Lib.hid h2
      have HHn := Lib.hid hn
      have HHw := Lib.hid hw
      have HH0 := Lib.hid h0
      have HHn0 := Lib.hid hn0
      have hl0 : ¬ l = 0 := fun h => hn (hz.1 h)
      have hm0 : ¬ m = 0 := fun h => by have := hz'.1 h; omega
      have hlm : ¬ (l = 1 ∧ m = 1) := by
        rintro ⟨rfl, rfl⟩
        refine hw ⟨?_, ?_⟩
        · rcases Nat.lt_or_ge n B with h | h
          · exact h
          · exact absurd (hB.2 h) (by omega)
        · rcases Nat.lt_or_ge d B with h | h
          · exact h
          · exact absurd (hB'.2 h) (by omega)
      have e0 : (((l : Nat) : Int) == 0) = false := by rw [beq_eq_false_iff_ne]; omega
      clear hz hz' hB hB' hn hw h1 h2 h0 hn0
      by_cases hl1 : l = 1
      · have e1 : (((m : Nat) : Int) == 1) = false := by rw [beq_eq_false_iff_ne]; omega
        subst hl1
        clear hm0 hl0 hlm
        go_enter Tryz.func122, Tryz.ntmps122
        go_wp2_with fail
        refine bodyPost_ret (v := wi neg ⟨w.heap.size + 1, 0, none⟩) (by simp [results, Tryz.results122, go_sem]) rfl ?_
        exact wide_new _ HH1.out HH2.out HHn0.out HH0.out HHw.out
      · have e1 : (((l : Nat) : Int) == 1) = false := by rw [beq_eq_false_iff_ne]; omega
        clear hm0 hl0 hlm hl1
        go_enter Tryz.func122, Tryz.ntmps122
        go_wp2_with fail
        refine bodyPost_ret (v := wi neg ⟨w.heap.size + 1, 0, none⟩) (by simp [results, Tryz.results122, go_sem]) rfl ?_
        exact wide_new _ HH1.out HH2.out HHn0.out HH0.out HHw.out
theorem whole_any (neg : Bool) (v1 : Value) (n : Nat) (w : World) (h1 : IsNat w v1 n) :
    Calls Tryz.prog 79 #[.bool neg, v1] w (FracPost w neg n 1) := by
  have HF := Lib.hid (fun W x (hx : IsNat W x 1) (hb : Below w.heap.size w W) => fraction_any neg v1 x n 1 W (h1.below hb (Nat.le_refl _)) hx (by omega))
  obtain ⟨ao, l, c, rfl, _, _, _⟩ := h1.form
  clear h1
  go_enter Tryz.func79, Tryz.ntmps79
  go_wp2_with fail
  obtain ⟨W0, hW0, hb0, hz, hs⟩ := boxz w; rw [← hW0]; clear hW0; have HZ := Lib.hid hz; have HW0 := Lib.hid hb0; have hb0 := Below.refl W0.heap.size W0; clear hz
  have h1n := one_new W0 1 (by decide) (by decide)
  have hb1 := below1 W0 (.cells #[u 1] 23)
  rw [hs] at h1n
  have hb2 := chain1 hb0 hb1
  refine (HF.out _ _ h1n (chain1 HW0.out hb2)).mono ?_
  rintro e W1 ⟨v, rfl, hN, hb⟩
  have hb3 := chain1 hb2 hb
  obtain ⟨a, b, p, rfl, _⟩ := hN.form
  have HN := Lib.hid hN
  have HB3 := Lib.hid hb3
  (have hz := HZ.out.below hb3 (Nat.le_refl _); have zf := hz.frozen; obtain ⟨z0, z1, z2, z3⟩ := hz.cells; have zf0 := zf 0; have zf1 := zf 1; have zf2 := zf 2; have zf3 := zf 3; clear zf hz)
  clear hN hb0 hb1 hb2 hb hb3 h1n
  have hz := HZ.out.below HB3.out (Nat.le_refl _)
  have hfin := FracPost.stored (a0 := .bool (neg && !decide (n = 0))) (a1 := u a) (a2 := u b) (a3 := .pointer p) hz HN.out (chain1 HW0.out HB3.out) (Nat.le_refl _)
  have HFin := Lib.hid hfin
  clear hfin hz HN
  generalize (neg && !decide (n = 0)) = sg at *
  go_wp2_with fail
  refine bodyPost_ret (v := .agg #[.bool sg, u a, u b, .pointer p]) (by simp [results, Tryz.results79, go_sem, z0, z1, z2, z3]) rfl ?_
  exact HFin.out
def PartsPost (w : World) (n d : Nat) (e : Ending) (w' : World) : Prop := ∃ x y, e = .returned (.tuple #[x, y]) ∧ IsNat w' x n ∧ IsNat w' y d ∧ Below w.heap.size w w'
theorem parts_any (v : Value) (neg : Bool) (n d : Nat) (w : World) (h : Num w v neg n d) :
    Calls Tryz.prog 84 #[v] w (PartsPost w n d) := by
  cases h with
  | low l hv hd hn hdB =>
    subst hv hd
    have HW1 := Lib.hid (fun W => word_any n W hn)
    have HW2 := Lib.hid (fun W => word_any (l + 1) W hdB)
    have HBo := Lib.hid (fun W => bottom_any neg n l none hdB W)
    clear hn hdB
    generalize l + 1 = d at *
    go_enter Tryz.func84, Tryz.ntmps84
    go_wp2_with fail
    obtain ⟨W0, hW0, hb0, ⟨f0, f1, f2, f3⟩⟩ := box1 w (.bool neg) (u n) (u l) (.pointer none); rw [← hW0]; clear hW0
    go_region_held3 (fun w' => (w'.cell? ⟨w.heap.size, 0, none⟩ = some (.bool neg) ∧ w'.cell? ⟨w.heap.size, 1, none⟩ = some (u n) ∧ w'.cell? ⟨w.heap.size, 2, none⟩ = some (u l) ∧ w'.cell? ⟨w.heap.size, 3, none⟩ = some (.pointer none))) (go_keep) (first | ((with_reducible refine (HW1.out _).mono ?_); rintro e W1 ⟨x, rfl, hx, hb⟩; (obtain ⟨_, _, _, _⟩ := boxq (b := w.heap.size) hb (by assumption) (by assumption) (by assumption) (by assumption))) | ((with_reducible refine (HBo.out _).mono ?_); rintro e W2 ⟨rfl, hb'⟩; (obtain ⟨_, _, _, _⟩ := boxq (b := w.heap.size) hb' (by assumption) (by assumption) (by assumption) (by assumption))) | ((with_reducible refine (HW2.out _).mono ?_); rintro e W3 ⟨y, rfl, hy, hb''⟩; (obtain ⟨_, _, _, _⟩ := boxq (b := w.heap.size) hb'' (by assumption) (by assumption) (by assumption) (by assumption))))
    have HX := Lib.hid hx
    have HY := Lib.hid hy
    have HBa := Lib.hid (chain hb0 hb)
    have HBb := Lib.hid hb'
    have HBc := Lib.hid hb''
    clear hx hy hb0 hb hb' hb'' f0 f1 f2 f3
    go_wp2_with fail
    refine bodyPost_ret (v := .tuple #[x, y]) (by simp [results, Tryz.results84, go_sem]) rfl ?_
    exact ⟨x, y, rfl, (HX.out.below HBb.out (Nat.le_refl _)).below HBc.out (Nat.le_refl _), HY.out, chain1 (chain1 HBa.out HBb.out) HBc.out⟩
  | wide b x y hv hx hy h1 h2 hB h0 hd =>
    subst hv
    have H1 := Lib.hid h1
    have H2 := Lib.hid h2
    obtain ⟨xa, xl, xc, rfl, _, _, _⟩ := h1.form
    obtain ⟨ya, yl, yc, rfl, _, _, _⟩ := h2.form
    clear h1 h2 hB h0 hd
    go_enter Tryz.func84, Tryz.ntmps84
    go_wp2_with fail
    obtain ⟨W0, hW0, hb0, ⟨f0, f1, f2, f3⟩⟩ := box1 w (.bool neg) (u 0) (u 0) (.pointer (some ⟨b, 0, none⟩)); rw [← hW0]; clear hW0
    have g0 : W0.cell? ⟨b, 0, none⟩ = some (.slice xa xl xc) := (hb0.cell (p := ⟨b, 0, none⟩) (World.block_lt_of_cell? w _ hx)).trans hx
    have g1 : W0.cell? ⟨b, 1, none⟩ = some (.slice ya yl yc) := (hb0.cell (p := ⟨b, 1, none⟩) (World.block_lt_of_cell? w _ hy)).trans hy
    clear hx hy
    have HB0 := Lib.hid hb0
    clear hb0
    go_quiet (fail)
    go_wp2_with fail
    refine bodyPost_ret (v := .tuple #[.slice xa xl xc, .slice ya yl yc]) (by simp [results, Tryz.results84, go_sem]) rfl ?_
    have hB := bdrewN (n := nq) HB0.out
    exact ⟨_, _, rfl, H1.out.below hB (Nat.le_refl _), H2.out.below hB (Nat.le_refl _), hB⟩
def AddNPost (w : World) (neg : Bool) (t : Nat) (e : Ending) (w' : World) : Prop := ∃ v, e = .returned (.tuple #[.bool neg, v]) ∧ IsNat w' v t ∧ Below w.heap.size w w'
theorem addSigned_any (a b : Bool) (v1 v2 : Value) (x y k : Nat) (w : World) (h1 : IsNat w v1 x) (h2 : IsNat w v2 y) (hx : x < B ^ k) (hy : y < B ^ k) (hk : (k : Int) ≤ 1073741824) :
    Calls Tryz.prog 131 #[.bool a, v1, .bool b, v2] w (AddNPost w (addS a x b y).1 (addS a x b y).2) := by
  have HP := Lib.hid (fun W (hW : Below w.heap.size w W) => plus_any v1 v2 x y k W (h1.below hW (Nat.le_refl _)) (h2.below hW (Nat.le_refl _)) hx hy hk)
  have HC := Lib.hid (fun W (hW : Below w.heap.size w W) => compare_any v1 v2 x y W (h1.below hW (Nat.le_refl _)) (h2.below hW (Nat.le_refl _)))
  have HM := Lib.hid (fun (h : y ≤ x) W (hW : Below w.heap.size w W) => minus_any v1 v2 x y k W (h1.below hW (Nat.le_refl _)) (h2.below hW (Nat.le_refl _)) hx h hk)
  have HM' := Lib.hid (fun (h : x ≤ y) W (hW : Below w.heap.size w W) => minus_any v2 v1 y x k W (h2.below hW (Nat.le_refl _)) (h1.below hW (Nat.le_refl _)) hy h hk)
  obtain ⟨xa, xl, xc, rfl, _, _, _⟩ := h1.form
  obtain ⟨ya, yl, yc, rfl, _, _, _⟩ := h2.form
  clear h1 h2 hx hy
  by_cases hab : a = b
  · subst hab
    go_enter Tryz.func131, Tryz.ntmps131
    go_wp2_with fail
    refine (HP.out w (Below.refl _ _)).mono ?_
    rintro e W1 ⟨v, rfl, hv, hb⟩
    have HV := Lib.hid hv
    have HB := Lib.hid hb
    clear hv hb
    go_wp2_with fail
    refine bodyPost_ret (v := .tuple #[.bool a, v]) (by simp [results, Tryz.results131, go_sem]) rfl ?_
    rw [show addS a x a y = (a, x + y) from by simp [addS]]
    exact ⟨v, rfl, HV.out, HB.out⟩
  · have hab' : (a == b) = false := by simpa using hab
    have HAB := Lib.hid hab
    clear hab
    by_cases hc : y ≤ x
    · have hcv : 0 ≤ cmpNat x y := by unfold cmpNat; split <;> first | omega | (split <;> omega)
      have HHC := Lib.hid hc
      clear hc
      generalize cmpNat x y = cv at *
      go_enter Tryz.func131, Tryz.ntmps131
      go_wp2_with fail
      refine (HC.out w (Below.refl _ _)).mono ?_
      rintro e W1 ⟨rfl, q, rfl⟩
      go_wp2_with fail
      refine (HM.out HHC.out _ (bdrewN (Below.refl _ _))).mono ?_
      rintro e W1 ⟨v, rfl, hv, hb⟩
      have HV := Lib.hid hv
      have HB := Lib.hid ((bdrewN (n := q) (Below.refl w.heap.size w)).trans hb)
      clear hv hb
      go_wp2_with fail
      refine bodyPost_ret (v := .tuple #[.bool a, v]) (by simp [results, Tryz.results131, go_sem]) rfl ?_
      rw [show addS a x b y = (a, x - y) from by simp [addS, HAB.out, HHC.out]]
      exact ⟨v, rfl, HV.out, HB.out⟩
    · have hcv : ¬ 0 ≤ cmpNat x y := by unfold cmpNat; split <;> omega
      have HHC := Lib.hid hc
      clear hc
      generalize cmpNat x y = cv at *
      go_enter Tryz.func131, Tryz.ntmps131
      go_wp2_with fail
      refine (HC.out w (Below.refl _ _)).mono ?_
      rintro e W1 ⟨rfl, q, rfl⟩
      go_wp2_with fail
      refine (HM'.out (by have := HHC.out; omega) _ (bdrewN (Below.refl _ _))).mono ?_
      rintro e W1 ⟨v, rfl, hv, hb⟩
      have HV := Lib.hid hv
      have HB := Lib.hid ((bdrewN (n := q) (Below.refl w.heap.size w)).trans hb)
      clear hv hb
      go_wp2_with fail
      refine bodyPost_ret (v := .tuple #[.bool b, v]) (by simp [results, Tryz.results131, go_sem]) rfl ?_
      rw [show addS a x b y = (b, y - x) from by simp [addS, HAB.out, HHC.out]]
      exact ⟨v, rfl, HV.out, HB.out⟩
open Go Go.RowKit Go.Proofs Lim
theorem mul_lt_pow {x y j k : Nat} (hx : x < B ^ j) (hy : y < B ^ k) : x * y < B ^ (j + k) := by
  rw [Nat.pow_add]
  exact Nat.mul_lt_mul'' hx hy
theorem compareWide_any (v1 v2 : Value) (neg1 neg2 : Bool) (n1 d1 n2 d2 k : Nat) (w : World) (h1 : Num w v1 neg1 n1 d1) (h2 : Num w v2 neg2 n2 d2)
    (hn1 : n1 < B ^ k) (hd1 : d1 < B ^ k) (hn2 : n2 < B ^ k) (hd2 : d2 < B ^ k) (hk : (k : Int) ≤ 1073741824) :
    Calls Tryz.prog 98 #[v1, v2] w (Val w (.int .i64 (cmpNat (n1 * d2) (n2 * d1)))) := by
  have HP1 := Lib.hid (fun W (hW : Below w.heap.size w W) => parts_any v1 neg1 n1 d1 W (h1.below hW (Nat.le_refl _)))
  have HP2 := Lib.hid (fun W (hW : Below w.heap.size w W) => parts_any v2 neg2 n2 d2 W (h2.below hW (Nat.le_refl _)))
  obtain ⟨a1, b1, p1, rfl, _⟩ := h1.form
  obtain ⟨a2, b2, p2, rfl, _⟩ := h2.form
  have HT1 := Lib.hid (fun x y W (hx : IsNat W x n1) (hy : IsNat W y d2) => times_any x y n1 d2 k W hx hy hn1 hd2 hk)
  have HT2 := Lib.hid (fun x y W (hx : IsNat W x n2) (hy : IsNat W y d1) => times_any x y n2 d1 k W hx hy hn2 hd1 hk)
  clear h1 h2 hn1 hd1 hn2 hd2
  go_enter Tryz.func98, Tryz.ntmps98
  go_wp2_with fail
  obtain ⟨W0, hW0, hb0, ⟨f0, f1, f2, f3⟩, ⟨g0, g1, g2, g3⟩⟩ := box2 w (.bool neg1) (u a1) (u b1) (.pointer p1) (.bool neg2) (u a2) (u b2) (.pointer p2); rw [← hW0]; clear hW0
  refine (HP1.out _ hb0).mono ?_
  rintro e W1 ⟨x1, y1, rfl, hx1, hy1, hb⟩
  (obtain ⟨_, _, _, _⟩ := boxq (b := w.heap.size) hb (by assumption) (by assumption) (by assumption) (by assumption); obtain ⟨_, _, _, _⟩ := boxq (b := w.heap.size + 1) hb (by assumption) (by assumption) (by assumption) (by assumption))
  have hb1 := chain1 hb0 hb
  obtain ⟨xa1, xl1, xc1, rfl, _⟩ := hx1.form
  obtain ⟨ya1, yl1, yc1, rfl, _⟩ := hy1.form
  have HX1 := Lib.hid hx1
  have HY1 := Lib.hid hy1
  have HA1 := Lib.hid hb1
  clear hb0 hb hb1 hx1 hy1 f0 f1 f2 f3 g0 g1 g2 g3
  go_wp2_with fail
  refine (HP2.out _ HA1.out).mono ?_
  rintro e W2 ⟨x2, y2, rfl, hx2, hy2, hb⟩
  (obtain ⟨_, _, _, _⟩ := boxq (b := w.heap.size) hb (by assumption) (by assumption) (by assumption) (by assumption); obtain ⟨_, _, _, _⟩ := boxq (b := w.heap.size + 1) hb (by assumption) (by assumption) (by assumption) (by assumption))
  obtain ⟨xa2, xl2, xc2, rfl, _⟩ := hx2.form
  obtain ⟨ya2, yl2, yc2, rfl, _⟩ := hy2.form
  have HX1' := Lib.hid (HX1.out.below hb (Nat.le_refl _))
  have HY1' := Lib.hid (HY1.out.below hb (Nat.le_refl _))
  have HX2 := Lib.hid hx2
  have HY2 := Lib.hid hy2
  have HA2 := Lib.hid (chain1 HA1.out hb)
  clear hb hx2 hy2 HA1 HX1 HY1
  go_wp2_with fail
  refine (HT1.out _ _ _ HX1'.out HY2.out).mono ?_
  rintro e W3 ⟨z1, rfl, hz1, hb⟩
  obtain ⟨za1, zl1, zc1, rfl, _⟩ := hz1.form
  have HX2' := Lib.hid (HX2.out.below hb (Nat.le_refl _))
  have HY1'' := Lib.hid (HY1'.out.below hb (Nat.le_refl _))
  have HZ1 := Lib.hid hz1
  have HA3 := Lib.hid (chain1 HA2.out hb)
  clear hb hz1 HA2 HX1' HX2 HY1' HY2
  go_wp2_with fail
  refine (HT2.out _ _ _ HX2'.out HY1''.out).mono ?_
  rintro e W4 ⟨z2, rfl, hz2, hb⟩
  obtain ⟨za2, zl2, zc2, rfl, _⟩ := hz2.form
  have HZ1' := Lib.hid (HZ1.out.below hb (Nat.le_refl _))
  have HZ2 := Lib.hid hz2
  have HA4 := Lib.hid (chain1 HA3.out hb)
  clear hb hz2 HA3 HX2' HY1'' HZ1
  go_wp2_with fail
  refine (compare_any _ _ _ _ _ HZ1'.out HZ2.out).mono ?_
  rintro e W5 ⟨rfl, q, rfl⟩
  generalize cmpNat (n1 * d2) (n2 * d1) = cv at *
  go_wp2_with fail
  go_ret
  exact ⟨rfl, bdrewN HA4.out⟩
open Go Go.RowKit Go.Proofs Lim
theorem without_any (v1 v2 : Value) (m n k : Nat) (w : World) (h1 : IsNat w v1 m) (h2 : IsNat w v2 n) (hn : 0 < n) (hm : m < B ^ k) (hk : (k : Int) ≤ 1073741824) :
    Calls Tryz.prog 121 #[v1, v2] w (NatNew w (m / n)) := by
  have HOv := Lib.hid (over_any v1 v2 m n k w h1 h2 hn hm hk)
  have H1 := Lib.hid h1
  by_cases o2 : n = 1
  · have HI := Lib.hid (isOne_yes v2 n w h2 o2)
    subst o2
    obtain ⟨xs, ⟨⟨xa, xc, rfl, _⟩, _⟩, _⟩ := h1
    obtain ⟨ys, ⟨⟨ya, yc, rfl, _⟩, _⟩, _⟩ := h2
    clear hm hn hk HOv
    go_enter Tryz.func121, Tryz.ntmps121
    go_wp2_with fail
    refine HI.out.mono ?_
    rintro e w1 ⟨rfl, rfl⟩
    go_wp2_with fail
    go_ret
    refine ⟨_, rfl, ?_, Below.refl _ _⟩
    rw [Nat.div_one]
    exact H1.out
  · have HI := Lib.hid (isOne_no v2 n w h2 o2)
    obtain ⟨xs, ⟨⟨xa, xc, rfl, _⟩, _⟩, _⟩ := h1
    obtain ⟨ys, ⟨⟨ya, yc, rfl, _⟩, _⟩, _⟩ := h2
    clear hm hn hk o2
    go_enter Tryz.func121, Tryz.ntmps121
    go_wp2_with fail
    refine HI.out.mono ?_
    rintro e w1 ⟨rfl, rfl⟩
    go_wp2_with fail
    refine HOv.out.mono ?_
    rintro e w' ⟨q, r, rfl, hq, hr, hbel⟩
    have HQ := Lib.hid hq
    have HB := Lib.hid hbel
    clear hq hr hbel
    go_wp2_with fail
    go_ret
    exact ⟨q, rfl, HQ.out, HB.out⟩
open Go Go.RowKit Go.Proofs Lim
set_option maxHeartbeats 3200000 in
theorem timesWide_any (v1 v2 : Value) (neg1 neg2 : Bool) (n1 d1 n2 d2 k : Nat) (w : World) (h1 : Num w v1 neg1 n1 d1) (h2 : Num w v2 neg2 n2 d2)
    (hn1 : n1 < B ^ k) (hd1 : d1 < B ^ k) (hn2 : n2 < B ^ k) (hd2 : d2 < B ^ k) (p1 : 0 < d1) (p2 : 0 < d2) (hk : (k : Int) ≤ 1073741824) (hG : Gr w) :
    Calls Tryz.prog 78 #[v1, v2] w (FracPost w (!neg1 == neg2) (n1 / Nat.gcd n1 d2 * (n2 / Nat.gcd n2 d1)) (d1 / Nat.gcd n2 d1 * (d2 / Nat.gcd n1 d2))) := by
  have HP1 := Lib.hid (fun W (hW : Below w.heap.size w W) => parts_any v1 neg1 n1 d1 W (h1.below hW (Nat.le_refl _)))
  have HP2 := Lib.hid (fun W (hW : Below w.heap.size w W) => parts_any v2 neg2 n2 d2 W (h2.below hW (Nat.le_refl _)))
  obtain ⟨a1, b1, q1, rfl, _⟩ := h1.form
  obtain ⟨a2, b2, q2, rfl, _⟩ := h2.form
  have HC1 := Lib.hid (fun x y W (hx : IsNat W x n1) (hy : IsNat W y d2) (hW : Below w.heap.size w W) => common_any x y n1 d2 k W hx hy hn1 hd2 hk (hG.below hW hG.size))
  have HC2 := Lib.hid (fun x y W (hx : IsNat W x n2) (hy : IsNat W y d1) (hW : Below w.heap.size w W) => common_any x y n2 d1 k W hx hy hn2 hd1 hk (hG.below hW hG.size))
  have hg1 : 0 < Nat.gcd n1 d2 := Nat.gcd_pos_of_pos_right _ p2
  have hg2 : 0 < Nat.gcd n2 d1 := Nat.gcd_pos_of_pos_right _ p1
  have hl1 : Nat.gcd n1 d2 ≤ d2 := Nat.gcd_le_right _ p2
  have hl2 : Nat.gcd n2 d1 ≤ d1 := Nat.gcd_le_right _ p1
  generalize Nat.gcd n1 d2 = g1 at *
  generalize Nat.gcd n2 d1 = g2 at *
  have HO1 := Lib.hid (fun x y W (hx : IsNat W x n1) (hy : IsNat W y g1) => without_any x y n1 g1 k W hx hy hg1 hn1 hk)
  have HO2 := Lib.hid (fun x y W (hx : IsNat W x n2) (hy : IsNat W y g2) => without_any x y n2 g2 k W hx hy hg2 hn2 hk)
  have HO3 := Lib.hid (fun x y W (hx : IsNat W x d1) (hy : IsNat W y g2) => without_any x y d1 g2 k W hx hy hg2 hd1 hk)
  have HO4 := Lib.hid (fun x y W (hx : IsNat W x d2) (hy : IsNat W y g1) => without_any x y d2 g1 k W hx hy hg1 hd2 hk)
  have l1 : n1 / g1 < B ^ k := Nat.lt_of_le_of_lt (Nat.div_le_self _ _) hn1
  have l2 : n2 / g2 < B ^ k := Nat.lt_of_le_of_lt (Nat.div_le_self _ _) hn2
  have l3 : d1 / g2 < B ^ k := Nat.lt_of_le_of_lt (Nat.div_le_self _ _) hd1
  have l4 : d2 / g1 < B ^ k := Nat.lt_of_le_of_lt (Nat.div_le_self _ _) hd2
  have hpos : 0 < d1 / g2 * (d2 / g1) := Nat.mul_pos (Nat.div_pos hl2 hg2) (Nat.div_pos hl1 hg1)
  generalize n1 / g1 = m1 at *
  generalize n2 / g2 = m2 at *
  generalize d1 / g2 = e1 at *
  generalize d2 / g1 = e2 at *
  have HT1 := Lib.hid (fun x y W (hx : IsNat W x m1) (hy : IsNat W y m2) => times_any x y m1 m2 k W hx hy l1 l2 hk)
  have HT2 := Lib.hid (fun x y W (hx : IsNat W x e1) (hy : IsNat W y e2) => times_any x y e1 e2 k W hx hy l3 l4 hk)
  have HF := Lib.hid (fun x y W (hx : IsNat W x (m1 * m2)) (hy : IsNat W y (e1 * e2)) => fraction_any (!neg1 == neg2) x y (m1 * m2) (e1 * e2) W hx hy hpos)
  clear h1 h2 hn1 hd1 hn2 hd2 hG hg1 hg2 hl1 hl2 l1 l2 l3 l4 hpos p1 p2
  generalize m1 * m2 = NUM at *
  generalize e1 * e2 = DEN at *
  go_enter Tryz.func78, Tryz.ntmps78
  go_wp2_with fail
  obtain ⟨W0, hW0, hb0, ⟨f0, f1, f2, f3⟩, ⟨g0, g1, g2, g3⟩, hz⟩ := box3 w (.bool neg1) (u a1) (u b1) (.pointer q1) (.bool neg2) (u a2) (u b2) (.pointer q2); rw [← hW0]; clear hW0; have HZ := Lib.hid hz; have HW0 := Lib.hid hb0; have hb0 := Below.refl W0.heap.size W0; clear hz
  refine (HP1.out _ (chain1 HW0.out hb0)).mono ?_
  rintro e W1 ⟨x1, y1, rfl, hx1, hy1, hb⟩
  (obtain ⟨_, _, _, _⟩ := boxq (b := w.heap.size) hb (by assumption) (by assumption) (by assumption) (by assumption); obtain ⟨_, _, _, _⟩ := boxq (b := w.heap.size + 1) hb (by assumption) (by assumption) (by assumption) (by assumption))
  obtain ⟨xa1, xl1, xc1, rfl, _⟩ := hx1.form
  obtain ⟨ya1, yl1, yc1, rfl, _⟩ := hy1.form
  have HX1 := Lib.hid hx1
  have HY1 := Lib.hid hy1
  have HA1 := Lib.hid (chain1 hb0 hb)
  clear hb0 hb hx1 hy1 f0 f1 f2 f3 g0 g1 g2 g3
  go_wp2_with fail
  refine (HP2.out _ (chain1 HW0.out HA1.out)).mono ?_
  rintro e W2 ⟨x2, y2, rfl, hx2, hy2, hb⟩
  (obtain ⟨_, _, _, _⟩ := boxq (b := w.heap.size) hb (by assumption) (by assumption) (by assumption) (by assumption); obtain ⟨_, _, _, _⟩ := boxq (b := w.heap.size + 1) hb (by assumption) (by assumption) (by assumption) (by assumption))
  obtain ⟨xa2, xl2, xc2, rfl, _⟩ := hx2.form
  obtain ⟨ya2, yl2, yc2, rfl, _⟩ := hy2.form
  have HX1 := Lib.hid (HX1.out.below hb (Nat.le_refl _))
  have HY1 := Lib.hid (HY1.out.below hb (Nat.le_refl _))
  have HX2 := Lib.hid hx2
  have HY2 := Lib.hid hy2
  have HA2 := Lib.hid (chain1 HA1.out hb)
  clear hb hx2 hy2 HA1
  have HA := HA2
  clear HA2
  go_wp2_with fail
  refine (HC1.out _ _ _ HX1.out HY2.out (chain1 HW0.out HA.out)).mono ?_
  rintro e W3 ⟨g, rfl, hv, hb⟩
  (obtain ⟨_, _, _, _⟩ := boxq (b := w.heap.size) hb (by assumption) (by assumption) (by assumption) (by assumption); obtain ⟨_, _, _, _⟩ := boxq (b := w.heap.size + 1) hb (by assumption) (by assumption) (by assumption) (by assumption))
  obtain ⟨_, _, _, rfl, _⟩ := hv.form
  have HX1 := Lib.hid (HX1.out.below hb (Nat.le_refl _))
  have HY1 := Lib.hid (HY1.out.below hb (Nat.le_refl _))
  have HX2 := Lib.hid (HX2.out.below hb (Nat.le_refl _))
  have HY2 := Lib.hid (HY2.out.below hb (Nat.le_refl _))
  have H_g := Lib.hid hv
  have HA := Lib.hid (chain1 HA.out hb)
  clear hb hv
  go_wp2_with fail
  refine (HC2.out _ _ _ HX2.out HY1.out (chain1 HW0.out HA.out)).mono ?_
  rintro e W4 ⟨h, rfl, hv, hb⟩
  (obtain ⟨_, _, _, _⟩ := boxq (b := w.heap.size) hb (by assumption) (by assumption) (by assumption) (by assumption); obtain ⟨_, _, _, _⟩ := boxq (b := w.heap.size + 1) hb (by assumption) (by assumption) (by assumption) (by assumption))
  obtain ⟨_, _, _, rfl, _⟩ := hv.form
  have HX1 := Lib.hid (HX1.out.below hb (Nat.le_refl _))
  have HY1 := Lib.hid (HY1.out.below hb (Nat.le_refl _))
  have HX2 := Lib.hid (HX2.out.below hb (Nat.le_refl _))
  have HY2 := Lib.hid (HY2.out.below hb (Nat.le_refl _))
  have H_g := Lib.hid (H_g.out.below hb (Nat.le_refl _))
  have H_h := Lib.hid hv
  have HA := Lib.hid (chain1 HA.out hb)
  clear hb hv
  go_wp2_with fail
  refine (HO1.out _ _ _ HX1.out H_g.out).mono ?_
  rintro e W5 ⟨r, rfl, hv, hb⟩
  (obtain ⟨_, _, _, _⟩ := boxq (b := w.heap.size) hb (by assumption) (by assumption) (by assumption) (by assumption); obtain ⟨_, _, _, _⟩ := boxq (b := w.heap.size + 1) hb (by assumption) (by assumption) (by assumption) (by assumption))
  obtain ⟨_, _, _, rfl, _⟩ := hv.form
  have HY1 := Lib.hid (HY1.out.below hb (Nat.le_refl _))
  have HX2 := Lib.hid (HX2.out.below hb (Nat.le_refl _))
  have HY2 := Lib.hid (HY2.out.below hb (Nat.le_refl _))
  have H_g := Lib.hid (H_g.out.below hb (Nat.le_refl _))
  have H_h := Lib.hid (H_h.out.below hb (Nat.le_refl _))
  have H_r := Lib.hid hv
  have HA := Lib.hid (chain1 HA.out hb)
  clear hb hv
  go_wp2_with fail
  refine (HO2.out _ _ _ HX2.out H_h.out).mono ?_
  rintro e W6 ⟨s, rfl, hv, hb⟩
  (obtain ⟨_, _, _, _⟩ := boxq (b := w.heap.size) hb (by assumption) (by assumption) (by assumption) (by assumption); obtain ⟨_, _, _, _⟩ := boxq (b := w.heap.size + 1) hb (by assumption) (by assumption) (by assumption) (by assumption))
  obtain ⟨_, _, _, rfl, _⟩ := hv.form
  have HY1 := Lib.hid (HY1.out.below hb (Nat.le_refl _))
  have HY2 := Lib.hid (HY2.out.below hb (Nat.le_refl _))
  have H_g := Lib.hid (H_g.out.below hb (Nat.le_refl _))
  have H_h := Lib.hid (H_h.out.below hb (Nat.le_refl _))
  have H_r := Lib.hid (H_r.out.below hb (Nat.le_refl _))
  have H_s := Lib.hid hv
  have HA := Lib.hid (chain1 HA.out hb)
  clear hb hv
  go_wp2_with fail
  refine (HT1.out _ _ _ H_r.out H_s.out).mono ?_
  rintro e W7 ⟨num, rfl, hv, hb⟩
  (obtain ⟨_, _, _, _⟩ := boxq (b := w.heap.size) hb (by assumption) (by assumption) (by assumption) (by assumption); obtain ⟨_, _, _, _⟩ := boxq (b := w.heap.size + 1) hb (by assumption) (by assumption) (by assumption) (by assumption))
  obtain ⟨_, _, _, rfl, _⟩ := hv.form
  have HY1 := Lib.hid (HY1.out.below hb (Nat.le_refl _))
  have HY2 := Lib.hid (HY2.out.below hb (Nat.le_refl _))
  have H_g := Lib.hid (H_g.out.below hb (Nat.le_refl _))
  have H_h := Lib.hid (H_h.out.below hb (Nat.le_refl _))
  have H_num := Lib.hid hv
  have HA := Lib.hid (chain1 HA.out hb)
  clear hb hv
  go_wp2_with fail
  refine (HO3.out _ _ _ HY1.out H_h.out).mono ?_
  rintro e W8 ⟨r, rfl, hv, hb⟩
  (obtain ⟨_, _, _, _⟩ := boxq (b := w.heap.size) hb (by assumption) (by assumption) (by assumption) (by assumption); obtain ⟨_, _, _, _⟩ := boxq (b := w.heap.size + 1) hb (by assumption) (by assumption) (by assumption) (by assumption))
  obtain ⟨_, _, _, rfl, _⟩ := hv.form
  have HY2 := Lib.hid (HY2.out.below hb (Nat.le_refl _))
  have H_g := Lib.hid (H_g.out.below hb (Nat.le_refl _))
  have H_num := Lib.hid (H_num.out.below hb (Nat.le_refl _))
  have H_r := Lib.hid hv
  have HA := Lib.hid (chain1 HA.out hb)
  clear hb hv
  go_wp2_with fail
  refine (HO4.out _ _ _ HY2.out H_g.out).mono ?_
  rintro e W9 ⟨s, rfl, hv, hb⟩
  (obtain ⟨_, _, _, _⟩ := boxq (b := w.heap.size) hb (by assumption) (by assumption) (by assumption) (by assumption); obtain ⟨_, _, _, _⟩ := boxq (b := w.heap.size + 1) hb (by assumption) (by assumption) (by assumption) (by assumption))
  obtain ⟨_, _, _, rfl, _⟩ := hv.form
  have H_num := Lib.hid (H_num.out.below hb (Nat.le_refl _))
  have H_r := Lib.hid (H_r.out.below hb (Nat.le_refl _))
  have H_s := Lib.hid hv
  have HA := Lib.hid (chain1 HA.out hb)
  clear hb hv
  go_wp2_with fail
  refine (HT2.out _ _ _ H_r.out H_s.out).mono ?_
  rintro e W10 ⟨den, rfl, hv, hb⟩
  (obtain ⟨_, _, _, _⟩ := boxq (b := w.heap.size) hb (by assumption) (by assumption) (by assumption) (by assumption); obtain ⟨_, _, _, _⟩ := boxq (b := w.heap.size + 1) hb (by assumption) (by assumption) (by assumption) (by assumption))
  obtain ⟨_, _, _, rfl, _⟩ := hv.form
  have H_num := Lib.hid (H_num.out.below hb (Nat.le_refl _))
  have H_den := Lib.hid hv
  have HA := Lib.hid (chain1 HA.out hb)
  clear hb hv
  go_wp2_with fail
  refine (HF.out _ _ _ H_num.out H_den.out).mono ?_
  rintro e W11 ⟨v, rfl, hN, hb⟩
  (obtain ⟨_, _, _, _⟩ := boxq (b := w.heap.size) hb (by assumption) (by assumption) (by assumption) (by assumption); obtain ⟨_, _, _, _⟩ := boxq (b := w.heap.size + 1) hb (by assumption) (by assumption) (by assumption) (by assumption))
  have hb3 := chain1 HA.out hb
  obtain ⟨a, b, p, rfl, _⟩ := hN.form
  have hz := HZ.out.below hb3 (Nat.le_refl _)
  have hfin := FracPost.stored (a0 := .bool ((!neg1 == neg2) && !decide (NUM = 0))) (a1 := u a) (a2 := u b) (a3 := .pointer p) hz hN (chain1 HW0.out hb3) (by omega)
  have HFin := Lib.hid hfin
  (have hz := HZ.out.below hb3 (Nat.le_refl _); have zf := hz.frozen; obtain ⟨z0, z1, z2, z3⟩ := hz.cells; have zf0 := zf 0; have zf1 := zf 1; have zf2 := zf 2; have zf3 := zf 3; clear zf hz)
  clear hfin hN hb hb3
  generalize ((!neg1 == neg2) && !decide (NUM = 0)) = sg at *
  go_wp2_with fail
  refine bodyPost_ret (v := .agg #[.bool sg, u a, u b, .pointer p]) (by simp [results, Tryz.results78, go_sem, z0, z1, z2, z3]) rfl ?_
  exact HFin.out
open Go Go.RowKit Go.Proofs Lim
theorem addS_lt {a b : Bool} {x y j : Nat} (hx : x < B ^ j) (hy : y < B ^ j) : (addS a x b y).2 < B ^ (j + 1) := by
  have h2 : 2 * B ^ j ≤ B ^ (j + 1) := by
    rw [Nat.pow_succ, Nat.mul_comm]
    exact Nat.mul_le_mul_left _ (by decide)
  have : (addS a x b y).2 ≤ x + y := by
    unfold addS
    split
    · exact Nat.le_refl _
    · split
      · show x - y ≤ x + y; omega
      · show y - x ≤ x + y; omega
  omega
set_option maxHeartbeats 3200000 in
theorem plusWide_any (v1 v2 : Value) (neg1 neg2 : Bool) (n1 d1 n2 d2 k : Nat) (w : World) (h1 : Num w v1 neg1 n1 d1) (h2 : Num w v2 neg2 n2 d2)
    (hn1 : n1 < B ^ k) (hd1 : d1 < B ^ k) (hn2 : n2 < B ^ k) (hd2 : d2 < B ^ k) (p1 : 0 < d1) (p2 : 0 < d2) (hk : ((k + k + 1 : Nat) : Int) ≤ 1073741824) (hG : Gr w) :
    Calls Tryz.prog 92 #[v1, v2] w (FracPost w (sumS neg1 n1 d1 neg2 n2 d2).1 (sumN neg1 n1 d1 neg2 n2 d2) (sumD neg1 n1 d1 neg2 n2 d2)) := by
  have HP1 := Lib.hid (fun W (hW : Below w.heap.size w W) => parts_any v1 neg1 n1 d1 W (h1.below hW (Nat.le_refl _)))
  have HP2 := Lib.hid (fun W (hW : Below w.heap.size w W) => parts_any v2 neg2 n2 d2 W (h2.below hW (Nat.le_refl _)))
  obtain ⟨a1, b1, q1, rfl, _⟩ := h1.form
  obtain ⟨a2, b2, q2, rfl, _⟩ := h2.form
  have hk1 : (k : Int) ≤ 1073741824 := by omega
  have hk2 : ((k + k : Nat) : Int) ≤ 1073741824 := by omega
  have HC1 := Lib.hid (fun x y W (hx : IsNat W x d1) (hy : IsNat W y d2) (hW : Below w.heap.size w W) => common_any x y d1 d2 k W hx hy hd1 hd2 hk1 (hG.below hW hG.size))
  have hg : 0 < Nat.gcd d1 d2 := Nat.gcd_pos_of_pos_right _ p2
  have hgl : Nat.gcd d1 d2 ≤ d1 := Nat.gcd_le_left _ p1
  have hdv : Nat.gcd d1 d2 ∣ d2 := Nat.gcd_dvd_right _ _
  unfold sumN sumD sumX sumS
  generalize Nat.gcd d1 d2 = g at *
  have HO1 := Lib.hid (fun x y W (hx : IsNat W x d1) (hy : IsNat W y g) => without_any x y d1 g k W hx hy hg hd1 hk1)
  have HO2 := Lib.hid (fun x y W (hx : IsNat W x d2) (hy : IsNat W y g) => without_any x y d2 g k W hx hy hg hd2 hk1)
  have l1 : d1 / g < B ^ k := Nat.lt_of_le_of_lt (Nat.div_le_self _ _) hd1
  have l2 : d2 / g < B ^ k := Nat.lt_of_le_of_lt (Nat.div_le_self _ _) hd2
  have hr1 : 0 < d1 / g := Nat.div_pos hgl hg
  generalize d1 / g = r1 at *
  generalize d2 / g = r2 at *
  have HT1 := Lib.hid (fun x y W (hx : IsNat W x n1) (hy : IsNat W y r2) => times_any x y n1 r2 k W hx hy hn1 l2 hk1)
  have HT2 := Lib.hid (fun x y W (hx : IsNat W x n2) (hy : IsNat W y r1) => times_any x y n2 r1 k W hx hy hn2 l1 hk1)
  have m1 : n1 * r2 < B ^ (k + k) := mul_lt_pow hn1 l2
  have m2 : n2 * r1 < B ^ (k + k) := mul_lt_pow hn2 l1
  generalize n1 * r2 = L at *
  generalize n2 * r1 = R at *
  have HAS := Lib.hid (fun x y W (hx : IsNat W x L) (hy : IsNat W y R) => addSigned_any neg1 neg2 x y L R (k + k) W hx hy m1 m2 hk2)
  have hsum := addS_lt (a := neg1) (b := neg2) m1 m2
  generalize (addS neg1 L neg2 R).1 = NEG at *
  generalize (addS neg1 L neg2 R).2 = S at *
  have hgB : g < B ^ (k + k + 1) := Nat.lt_of_le_of_lt hgl (Nat.lt_of_lt_of_le hd1 (Nat.pow_le_pow_right B_pos (by omega)))
  have HC2 := Lib.hid (fun x y W (hx : IsNat W x S) (hy : IsNat W y g) (hW : Below w.heap.size w W) => common_any x y S g (k + k + 1) W hx hy hsum hgB hk (hG.below hW hG.size))
  have hx0 : 0 < Nat.gcd S g := Nat.gcd_pos_of_pos_right _ hg
  have hxl : Nat.gcd S g ≤ d2 := Nat.le_trans (Nat.gcd_le_right _ hg) (Nat.le_of_dvd p2 hdv)
  generalize Nat.gcd S g = X at *
  have HO3 := Lib.hid (fun x y W (hx : IsNat W x S) (hy : IsNat W y X) => without_any x y S X (k + k + 1) W hx hy hx0 hsum hk)
  have HO4 := Lib.hid (fun x y W (hx : IsNat W x d2) (hy : IsNat W y X) => without_any x y d2 X k W hx hy hx0 hd2 hk1)
  have l4 : d2 / X < B ^ k := Nat.lt_of_le_of_lt (Nat.div_le_self _ _) hd2
  have hpos : 0 < r1 * (d2 / X) := Nat.mul_pos hr1 (Nat.div_pos hxl hx0)
  generalize d2 / X = E at *
  generalize S / X = NUM at *
  have HT3 := Lib.hid (fun x y W (hx : IsNat W x r1) (hy : IsNat W y E) => times_any x y r1 E k W hx hy l1 l4 hk1)
  have HF := Lib.hid (fun x y W (hx : IsNat W x NUM) (hy : IsNat W y (r1 * E)) => fraction_any NEG x y NUM (r1 * E) W hx hy hpos)
  generalize r1 * E = DEN at *
  clear h1 h2 hn1 hd1 hn2 hd2 hG hg hgl hdv l1 l2 hr1 m1 m2 hsum hgB hx0 hxl l4 hpos p1 p2 hk1 hk2
  go_enter Tryz.func92, Tryz.ntmps92
  go_wp2_with fail
  obtain ⟨W0, hW0, hb0, ⟨f0, f1, f2, f3⟩, ⟨g0, g1, g2, g3⟩, hz⟩ := box3 w (.bool neg1) (u a1) (u b1) (.pointer q1) (.bool neg2) (u a2) (u b2) (.pointer q2); rw [← hW0]; clear hW0; have HZ := Lib.hid hz; have HW0 := Lib.hid hb0; have hb0 := Below.refl W0.heap.size W0; clear hz
  refine (HP1.out _ (chain1 HW0.out hb0)).mono ?_
  rintro e W1 ⟨x1, y1, rfl, hx1, hy1, hb⟩
  (obtain ⟨_, _, _, _⟩ := boxq (b := w.heap.size) hb (by assumption) (by assumption) (by assumption) (by assumption); obtain ⟨_, _, _, _⟩ := boxq (b := w.heap.size + 1) hb (by assumption) (by assumption) (by assumption) (by assumption))
  obtain ⟨xa1, xl1, xc1, rfl, _⟩ := hx1.form
  obtain ⟨ya1, yl1, yc1, rfl, _⟩ := hy1.form
  have HX1 := Lib.hid hx1
  have HY1 := Lib.hid hy1
  have HA1 := Lib.hid (chain1 hb0 hb)
  clear hb0 hb hx1 hy1 f0 f1 f2 f3 g0 g1 g2 g3
  go_wp2_with fail
  refine (HP2.out _ (chain1 HW0.out HA1.out)).mono ?_
  rintro e W2 ⟨x2, y2, rfl, hx2, hy2, hb⟩
  (obtain ⟨_, _, _, _⟩ := boxq (b := w.heap.size) hb (by assumption) (by assumption) (by assumption) (by assumption); obtain ⟨_, _, _, _⟩ := boxq (b := w.heap.size + 1) hb (by assumption) (by assumption) (by assumption) (by assumption))
  obtain ⟨xa2, xl2, xc2, rfl, _⟩ := hx2.form
  obtain ⟨ya2, yl2, yc2, rfl, _⟩ := hy2.form
  have HX1 := Lib.hid (HX1.out.below hb (Nat.le_refl _))
  have HY1 := Lib.hid (HY1.out.below hb (Nat.le_refl _))
  have HX2 := Lib.hid hx2
  have HY2 := Lib.hid hy2
  have HA2 := Lib.hid (chain1 HA1.out hb)
  clear hb hx2 hy2 HA1
  have HA := HA2
  clear HA2
  go_wp2_with fail
  refine (HC1.out _ _ _ HY1.out HY2.out (chain1 HW0.out HA.out)).mono ?_
  rintro e W3 ⟨g, rfl, hv, hb⟩
  (obtain ⟨_, _, _, _⟩ := boxq (b := w.heap.size) hb (by assumption) (by assumption) (by assumption) (by assumption); obtain ⟨_, _, _, _⟩ := boxq (b := w.heap.size + 1) hb (by assumption) (by assumption) (by assumption) (by assumption))
  obtain ⟨_, _, _, rfl, _⟩ := hv.form
  have HX1 := Lib.hid (HX1.out.below hb (Nat.le_refl _))
  have HY1 := Lib.hid (HY1.out.below hb (Nat.le_refl _))
  have HX2 := Lib.hid (HX2.out.below hb (Nat.le_refl _))
  have HY2 := Lib.hid (HY2.out.below hb (Nat.le_refl _))
  have H_g := Lib.hid hv
  have HA := Lib.hid (chain1 HA.out hb)
  clear hb hv
  go_wp2_with fail
  refine (HO1.out _ _ _ HY1.out H_g.out).mono ?_
  rintro e W4 ⟨r, rfl, hv, hb⟩
  (obtain ⟨_, _, _, _⟩ := boxq (b := w.heap.size) hb (by assumption) (by assumption) (by assumption) (by assumption); obtain ⟨_, _, _, _⟩ := boxq (b := w.heap.size + 1) hb (by assumption) (by assumption) (by assumption) (by assumption))
  obtain ⟨_, _, _, rfl, _⟩ := hv.form
  have HX1 := Lib.hid (HX1.out.below hb (Nat.le_refl _))
  have HX2 := Lib.hid (HX2.out.below hb (Nat.le_refl _))
  have HY2 := Lib.hid (HY2.out.below hb (Nat.le_refl _))
  have H_g := Lib.hid (H_g.out.below hb (Nat.le_refl _))
  have H_r := Lib.hid hv
  have HA := Lib.hid (chain1 HA.out hb)
  clear hb hv
  go_wp2_with fail
  refine (HO2.out _ _ _ HY2.out H_g.out).mono ?_
  rintro e W5 ⟨s, rfl, hv, hb⟩
  (obtain ⟨_, _, _, _⟩ := boxq (b := w.heap.size) hb (by assumption) (by assumption) (by assumption) (by assumption); obtain ⟨_, _, _, _⟩ := boxq (b := w.heap.size + 1) hb (by assumption) (by assumption) (by assumption) (by assumption))
  obtain ⟨_, _, _, rfl, _⟩ := hv.form
  have HX1 := Lib.hid (HX1.out.below hb (Nat.le_refl _))
  have HX2 := Lib.hid (HX2.out.below hb (Nat.le_refl _))
  have HY2 := Lib.hid (HY2.out.below hb (Nat.le_refl _))
  have H_g := Lib.hid (H_g.out.below hb (Nat.le_refl _))
  have H_r := Lib.hid (H_r.out.below hb (Nat.le_refl _))
  have H_s := Lib.hid hv
  have HA := Lib.hid (chain1 HA.out hb)
  clear hb hv
  go_wp2_with fail
  go_region_held3 (fun w' => (w'.cell? ⟨w.heap.size, 0, none⟩ = some (.bool neg1) ∧ w'.cell? ⟨w.heap.size, 1, none⟩ = some (u a1) ∧ w'.cell? ⟨w.heap.size, 2, none⟩ = some (u b1) ∧ w'.cell? ⟨w.heap.size, 3, none⟩ = some (.pointer q1)) ∧ (w'.cell? ⟨w.heap.size + 1, 0, none⟩ = some (.bool neg2) ∧ w'.cell? ⟨w.heap.size + 1, 1, none⟩ = some (u a2) ∧ w'.cell? ⟨w.heap.size + 1, 2, none⟩ = some (u b2) ∧ w'.cell? ⟨w.heap.size + 1, 3, none⟩ = some (.pointer q2))) (go_keep) (first | ((with_reducible refine (HT1.out _ _ _ (HX1.out.below (Below.refl _ _).drew (Nat.le_refl _)) (H_s.out.below (Below.refl _ _).drew (Nat.le_refl _))).mono ?_); rintro e W6 ⟨a, rfl, ha, hb⟩; (obtain ⟨_, _, _, _⟩ := boxq (b := w.heap.size) hb (by assumption) (by assumption) (by assumption) (by assumption); obtain ⟨_, _, _, _⟩ := boxq (b := w.heap.size + 1) hb (by assumption) (by assumption) (by assumption) (by assumption)); obtain ⟨_, _, _, rfl, _⟩ := ha.form) | ((with_reducible refine (HT2.out _ _ _ (HX2.out.below (chain (Below.refl _ _) hb) (Nat.le_refl _)) (H_r.out.below (chain (Below.refl _ _) hb) (Nat.le_refl _))).mono ?_); rintro e W7 ⟨b, rfl, hv, hb'⟩; (obtain ⟨_, _, _, _⟩ := boxq (b := w.heap.size) hb' (by assumption) (by assumption) (by assumption) (by assumption); obtain ⟨_, _, _, _⟩ := boxq (b := w.heap.size + 1) hb' (by assumption) (by assumption) (by assumption) (by assumption)); obtain ⟨_, _, _, rfl, _⟩ := hv.form) | ((with_reducible refine (HAS.out _ _ _ (ha.below hb' (Nat.le_refl _)) hv).mono ?_); rintro e W8 ⟨t, rfl, ht, hb''⟩; (obtain ⟨_, _, _, _⟩ := boxq (b := w.heap.size) hb'' (by assumption) (by assumption) (by assumption) (by assumption); obtain ⟨_, _, _, _⟩ := boxq (b := w.heap.size + 1) hb'' (by assumption) (by assumption) (by assumption) (by assumption)); obtain ⟨_, _, _, rfl, _⟩ := ht.form))
  have hbb := chain1 (chain1 (chain (Below.refl _ _) hb) hb') hb''
  have HY2 := Lib.hid (HY2.out.below hbb (Nat.le_refl _))
  have H_g := Lib.hid (H_g.out.below hbb (Nat.le_refl _))
  have H_r := Lib.hid (H_r.out.below hbb (Nat.le_refl _))
  have H_t := Lib.hid ht
  have HA := Lib.hid (chain1 HA.out hbb)
  clear hb hb' hb'' hbb ha hv ht
  go_wp2_with fail
  refine (HC2.out _ _ _ H_t.out H_g.out (chain1 HW0.out HA.out)).mono ?_
  rintro e W9 ⟨x, rfl, hv, hb⟩
  (obtain ⟨_, _, _, _⟩ := boxq (b := w.heap.size) hb (by assumption) (by assumption) (by assumption) (by assumption); obtain ⟨_, _, _, _⟩ := boxq (b := w.heap.size + 1) hb (by assumption) (by assumption) (by assumption) (by assumption))
  obtain ⟨_, _, _, rfl, _⟩ := hv.form
  have HY2 := Lib.hid (HY2.out.below hb (Nat.le_refl _))
  have H_r := Lib.hid (H_r.out.below hb (Nat.le_refl _))
  have H_t := Lib.hid (H_t.out.below hb (Nat.le_refl _))
  have H_x := Lib.hid hv
  have HA := Lib.hid (chain1 HA.out hb)
  clear hb hv
  go_wp2_with fail
  refine (HO3.out _ _ _ H_t.out H_x.out).mono ?_
  rintro e W10 ⟨num, rfl, hv, hb⟩
  (obtain ⟨_, _, _, _⟩ := boxq (b := w.heap.size) hb (by assumption) (by assumption) (by assumption) (by assumption); obtain ⟨_, _, _, _⟩ := boxq (b := w.heap.size + 1) hb (by assumption) (by assumption) (by assumption) (by assumption))
  obtain ⟨_, _, _, rfl, _⟩ := hv.form
  have HY2 := Lib.hid (HY2.out.below hb (Nat.le_refl _))
  have H_r := Lib.hid (H_r.out.below hb (Nat.le_refl _))
  have H_x := Lib.hid (H_x.out.below hb (Nat.le_refl _))
  have H_num := Lib.hid hv
  have HA := Lib.hid (chain1 HA.out hb)
  clear hb hv
  go_wp2_with fail
  refine (HO4.out _ _ _ HY2.out H_x.out).mono ?_
  rintro e W11 ⟨q, rfl, hv, hb⟩
  (obtain ⟨_, _, _, _⟩ := boxq (b := w.heap.size) hb (by assumption) (by assumption) (by assumption) (by assumption); obtain ⟨_, _, _, _⟩ := boxq (b := w.heap.size + 1) hb (by assumption) (by assumption) (by assumption) (by assumption))
  obtain ⟨_, _, _, rfl, _⟩ := hv.form
  have H_r := Lib.hid (H_r.out.below hb (Nat.le_refl _))
  have H_num := Lib.hid (H_num.out.below hb (Nat.le_refl _))
  have H_q := Lib.hid hv
  have HA := Lib.hid (chain1 HA.out hb)
  clear hb hv
  go_wp2_with fail
  refine (HT3.out _ _ _ H_r.out H_q.out).mono ?_
  rintro e W12 ⟨den, rfl, hv, hb⟩
  (obtain ⟨_, _, _, _⟩ := boxq (b := w.heap.size) hb (by assumption) (by assumption) (by assumption) (by assumption); obtain ⟨_, _, _, _⟩ := boxq (b := w.heap.size + 1) hb (by assumption) (by assumption) (by assumption) (by assumption))
  obtain ⟨_, _, _, rfl, _⟩ := hv.form
  have H_num := Lib.hid (H_num.out.below hb (Nat.le_refl _))
  have H_den := Lib.hid hv
  have HA := Lib.hid (chain1 HA.out hb)
  clear hb hv
  go_wp2_with fail
  refine (HF.out _ _ _ H_num.out H_den.out).mono ?_
  rintro e W13 ⟨v, rfl, hN, hb⟩
  (obtain ⟨_, _, _, _⟩ := boxq (b := w.heap.size) hb (by assumption) (by assumption) (by assumption) (by assumption); obtain ⟨_, _, _, _⟩ := boxq (b := w.heap.size + 1) hb (by assumption) (by assumption) (by assumption) (by assumption))
  have hb3 := chain1 HA.out hb
  obtain ⟨a, b, p, rfl, _⟩ := hN.form
  have hz := HZ.out.below hb3 (Nat.le_refl _)
  have hfin := FracPost.stored (a0 := .bool (NEG && !decide (NUM = 0))) (a1 := u a) (a2 := u b) (a3 := .pointer p) hz hN (chain1 HW0.out hb3) (by omega)
  have HFin := Lib.hid hfin
  (have hz := HZ.out.below hb3 (Nat.le_refl _); have zf := hz.frozen; obtain ⟨z0, z1, z2, z3⟩ := hz.cells; have zf0 := zf 0; have zf1 := zf 1; have zf2 := zf 2; have zf3 := zf 3; clear zf hz)
  clear hfin hN hb hb3
  generalize (NEG && !decide (NUM = 0)) = sg at *
  go_wp2_with fail
  refine bodyPost_ret (v := .agg #[.bool sg, u a, u b, .pointer p]) (by simp [results, Tryz.results92, go_sem, z0, z1, z2, z3]) rfl ?_
  exact HFin.out
open Go Go.RowKit Go.Proofs Lim
def sgn (neg : Bool) (n : Nat) : Int := if neg then -(n : Int) else (n : Int)
theorem sgn_abs (neg : Bool) (n : Nat) : (sgn neg n).natAbs = n := by unfold sgn; split <;> omega
theorem sgn_neg (neg : Bool) (n : Nat) : decide (sgn neg n < 0) = (neg && !decide (n = 0)) := by
  unfold sgn
  cases neg
  · simp
  · rw [Bool.eq_iff_iff]
    simp
    omega
theorem sgn_self (i : Int) : sgn (decide (i < 0)) i.natAbs = i := by
  unfold sgn
  by_cases h : i < 0
  · simp only [h, decide_true, if_true]; omega
  · simp only [h, decide_false, Bool.false_eq_true, if_false]; omega
theorem sgn_addS (a b : Bool) (x y : Nat) : sgn (addS a x b y).1 (addS a x b y).2 = sgn a x + sgn b y := by
  unfold addS sgn
  by_cases h : y ≤ x <;> cases a <;> cases b <;> simp [h] <;> omega
theorem rat_eq {r : Rat} {N : Int} {D : Nat} (hD : 0 < D) (hc : N.natAbs.Coprime D) (P : Int) (Q : Nat) (hQ : Q ≠ 0) (hr : r = mkRat P Q) (h : P * D = N * Q) : r.num = N ∧ r.den = D := by
  have hq : r = ⟨N, D, Nat.ne_of_gt hD, hc⟩ := by
    rw [hr, ← Rat.mkRat_self ⟨N, D, Nat.ne_of_gt hD, hc⟩]
    exact (Rat.mkRat_eq_iff hQ (Nat.ne_of_gt hD)).2 h
  subst hq
  exact ⟨rfl, rfl⟩
abbrev neg? (r : Rat) : Bool := decide (r.num < 0)
theorem add_parts (a b : Rat) :
    (a + b).num = sgn (sumS (neg? a) a.num.natAbs a.den (neg? b) b.num.natAbs b.den).1 (sumN (neg? a) a.num.natAbs a.den (neg? b) b.num.natAbs b.den) ∧
      (a + b).den = sumD (neg? a) a.num.natAbs a.den (neg? b) b.num.natAbs b.den := by
  have hg : 0 < Nat.gcd a.den b.den := Nat.gcd_pos_of_pos_right _ b.den_pos
  have haux := Rat.add.aux a b (g := Nat.gcd a.den b.den) rfl rfl rfl
  simp only at haux
  have e1 : a.den / Nat.gcd a.den b.den * Nat.gcd a.den b.den = a.den := Nat.div_mul_cancel (Nat.gcd_dvd_left _ _)
  have e2 : b.den / Nat.gcd a.den b.den * Nat.gcd a.den b.den = b.den := Nat.div_mul_cancel (Nat.gcd_dvd_right _ _)
  have hdvd := Nat.gcd_dvd_right a.den b.den
  have hr1 : 0 < a.den / Nat.gcd a.den b.den := Nat.div_pos (Nat.gcd_le_left _ a.den_pos) hg
  have hsum := sgn_addS (neg? a) (neg? b) (a.num.natAbs * (b.den / Nat.gcd a.den b.den)) (b.num.natAbs * (a.den / Nat.gcd a.den b.den))
  have hm : ∀ (i : Int) (x : Nat), sgn (decide (i < 0)) (i.natAbs * x) = i * x := by
    intro i x
    have := sgn_self i
    unfold sgn at this ⊢
    split
    · rename_i h; rw [if_pos h] at this; rw [Int.natCast_mul, ← Int.neg_mul, this]
    · rename_i h; rw [if_neg h] at this; rw [Int.natCast_mul, this]
  rw [hm, hm] at hsum
  have hb := b.den_pos
  have hnz : a.den * b.den ≠ 0 := Nat.ne_of_gt (Nat.mul_pos a.den_pos b.den_pos)
  have hdef := Rat.add_def' a b
  unfold sumN sumD sumX sumS
  rw [← hsum] at haux
  rw [sgn_abs] at haux
  generalize hSS : addS (neg? a) (a.num.natAbs * (b.den / Nat.gcd a.den b.den)) (neg? b) (b.num.natAbs * (a.den / Nat.gcd a.den b.den)) = S at *
  generalize Nat.gcd a.den b.den = g at *
  generalize a.den / g = r1 at *
  generalize b.den / g = r2 at *
  have hX0 : 0 < Nat.gcd S.2 g := Nat.gcd_pos_of_pos_right _ hg
  have hXb : Nat.gcd S.2 g ∣ b.den := Nat.dvd_trans (Nat.gcd_dvd_right _ _) hdvd
  have hXS : S.2 / Nat.gcd S.2 g * Nat.gcd S.2 g = S.2 := Nat.div_mul_cancel (Nat.gcd_dvd_left _ _)
  have hXE : b.den / Nat.gcd S.2 g * Nat.gcd S.2 g = b.den := Nat.div_mul_cancel hXb
  have hcop : Nat.Coprime (S.2 / Nat.gcd S.2 g) (r1 * (b.den / Nat.gcd S.2 g)) := by
    rw [← Nat.mul_div_assoc _ hXb, haux]
    refine Nat.coprime_div_gcd_div_gcd ?_
    rw [← haux]; exact hX0
  have hE0 : 0 < b.den / Nat.gcd S.2 g := Nat.div_pos (Nat.le_of_dvd hb hXb) hX0
  generalize Nat.gcd S.2 g = X at *
  generalize S.2 / X = N at *
  generalize hE : b.den / X = E at *
  refine rat_eq (Nat.mul_pos hr1 hE0) (by rw [sgn_abs]; exact hcop) _ _ hnz hdef ?_
  have hs : sgn S.1 S.2 = sgn S.1 N * X := by
    unfold sgn
    rw [← hXS]
    split <;> rw [Int.natCast_mul]
    rw [Int.neg_mul]
  rw [hs] at hsum
  generalize sgn S.1 N = NN at *
  generalize a.num = an at *
  generalize b.num = bn at *
  rw [← e1]
  have e2' : ((b.den : Nat) : Int) = (r2 : Int) * g := by rw [← e2]; simp
  have e3' : ((b.den : Nat) : Int) = (E : Int) * X := by rw [← hXE]; simp
  simp only [Int.natCast_mul]
  generalize ((b.den : Nat) : Int) = bd at *
  grind
theorem mul_parts (a b : Rat) :
    (a * b).num = sgn (!neg? a == neg? b) (a.num.natAbs / Nat.gcd a.num.natAbs b.den * (b.num.natAbs / Nat.gcd b.num.natAbs a.den)) ∧
      (a * b).den = a.den / Nat.gcd b.num.natAbs a.den * (b.den / Nat.gcd a.num.natAbs b.den) := by
  have hg1 : 0 < Nat.gcd a.num.natAbs b.den := Nat.gcd_pos_of_pos_right _ b.den_pos
  have hg2 : 0 < Nat.gcd b.num.natAbs a.den := Nat.gcd_pos_of_pos_right _ a.den_pos
  have hc : ((a.num.natAbs / Nat.gcd a.num.natAbs b.den) * (b.num.natAbs / Nat.gcd b.num.natAbs a.den)).Coprime ((a.den / Nat.gcd b.num.natAbs a.den) * (b.den / Nat.gcd a.num.natAbs b.den)) := by
    rw [Nat.coprime_mul_iff_left]
    refine ⟨Nat.coprime_mul_iff_right.2 ⟨?_, ?_⟩, Nat.coprime_mul_iff_right.2 ⟨?_, ?_⟩⟩
    · exact a.reduced.coprime_div_left (Nat.gcd_dvd_left ..) |>.coprime_div_right (Nat.gcd_dvd_right ..)
    · exact Nat.coprime_div_gcd_div_gcd hg1
    · exact Nat.coprime_div_gcd_div_gcd hg2
    · exact b.reduced.coprime_div_left (Nat.gcd_dvd_left ..) |>.coprime_div_right (Nat.gcd_dvd_right ..)
  have e1 : a.num.natAbs / Nat.gcd a.num.natAbs b.den * Nat.gcd a.num.natAbs b.den = a.num.natAbs := Nat.div_mul_cancel (Nat.gcd_dvd_left _ _)
  have e2 : b.num.natAbs / Nat.gcd b.num.natAbs a.den * Nat.gcd b.num.natAbs a.den = b.num.natAbs := Nat.div_mul_cancel (Nat.gcd_dvd_left _ _)
  have e3 : a.den / Nat.gcd b.num.natAbs a.den * Nat.gcd b.num.natAbs a.den = a.den := Nat.div_mul_cancel (Nat.gcd_dvd_right _ _)
  have e4 : b.den / Nat.gcd a.num.natAbs b.den * Nat.gcd a.num.natAbs b.den = b.den := Nat.div_mul_cancel (Nat.gcd_dvd_right _ _)
  have p3 : 0 < a.den / Nat.gcd b.num.natAbs a.den := Nat.div_pos (Nat.gcd_le_right _ a.den_pos) hg2
  have p4 : 0 < b.den / Nat.gcd a.num.natAbs b.den := Nat.div_pos (Nat.gcd_le_right _ b.den_pos) hg1
  have hnz : a.den * b.den ≠ 0 := Nat.ne_of_gt (Nat.mul_pos a.den_pos b.den_pos)
  have hdef := Rat.mul_def' a b
  have ha := sgn_self a.num
  have hb := sgn_self b.num
  generalize Nat.gcd a.num.natAbs b.den = g1 at *
  generalize Nat.gcd b.num.natAbs a.den = g2 at *
  generalize a.num.natAbs / g1 = m1 at *
  generalize b.num.natAbs / g2 = m2 at *
  generalize a.den / g2 = q1 at *
  generalize b.den / g1 = q2 at *
  refine rat_eq (Nat.mul_pos p3 p4) (by rw [sgn_abs]; exact hc) _ _ hnz hdef ?_
  have hs : a.num * b.num = sgn (!neg? a == neg? b) (m1 * m2) * (g1 * g2) := by
    rw [← ha, ← hb, ← e1, ← e2]
    unfold sgn
    by_cases h1 : a.num < 0 <;> by_cases h2 : b.num < 0 <;> simp [h1, h2] <;> grind
  rw [hs, ← e3, ← e4]
  simp only [Int.natCast_mul]
  grind
theorem FracPost.q {w w' : World} {neg : Bool} {n d : Nat} {e : Ending} {r : Rat} (h : FracPost w neg n d e w') (hn : r.num = sgn neg n) (hd : r.den = d) : QNew w r e w' := by
  obtain ⟨v, he, hN, hb⟩ := h
  refine ⟨v, he, ?_, hb⟩
  unfold IsQ
  rw [hn, sgn_abs, sgn_neg]
  have : r.den = if n = 0 then 1 else d := by
    split
    · rename_i h0
      have hz : r.num = 0 := by rw [hn, h0]; unfold sgn; simp
      have := r.reduced
      rw [hz] at this
      simpa using this
    · exact hd
  rw [this]
  exact hN
end Go.Proofs.YtccabfblgjcboaaGreatDoor
