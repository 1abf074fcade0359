/- Package exact: Size QSize QRead. -/
import Derived.Test.YtccabfblgjcboaaGreatDoorV19
set_option linter.all false

namespace Go.Proofs.YtccabfblgjcboaaGreatDoor.Lim
theorem natAbs_div_le (n : Int) (g : Nat) : (n / (g : Int)).natAbs ≤ n.natAbs := by
 rcases Nat.eq_zero_or_pos g with h | h
 · subst h; simp
 · rcases (Decidable.em (n < 0)) with hn | hn
   · have h1 := Int.mul_ediv_add_emod n g
     have h2 := Int.emod_nonneg n (b := (g : Int)) (by omega)
     have h3 := Int.emod_lt_of_pos n (b := (g : Int)) (by omega)
     have h4 : n ≤ n / (g : Int) := by
      have : n * (g : Int) ≤ n * 1 := Int.mul_le_mul_of_nonpos_left (by omega) (by omega)
      rw [Int.mul_one] at this
      exact (Int.le_ediv_iff_mul_le (by omega)).2 this
     have h5 : n / (g : Int) < 0 := Int.ediv_neg_of_neg_of_pos hn (by omega)
     omega
   · have h1 : 0 ≤ n / (g : Int) := Int.ediv_nonneg (by omega) (by omega)
     have h2 : n / (g : Int) ≤ n := Int.ediv_le_self _ (by omega)
     omega
theorem mkRat_size (n : Int) (d : Nat) (hd : d ≠ 0) : (mkRat n d).num.natAbs ≤ n.natAbs ∧ (mkRat n d).den ≤ d := by
 rw [Rat.num_mkRat, Rat.den_mkRat, if_neg hd, if_neg hd]
 exact ⟨natAbs_div_le _ _, Nat.div_le_self _ _⟩
theorem mul_size (r s : Rat) : (r * s).num.natAbs ≤ r.num.natAbs * s.num.natAbs ∧ (r * s).den ≤ r.den * s.den := by
 rw [Rat.mul_def']
 have := mkRat_size (r.num * s.num) (r.den * s.den) (Nat.mul_ne_zero r.den_nz s.den_nz)
 rwa [Int.natAbs_mul] at this
theorem add_size (r s : Rat) : (r + s).num.natAbs ≤ r.num.natAbs * s.den + s.num.natAbs * r.den ∧ (r + s).den ≤ r.den * s.den := by
 rw [Rat.add_def']
 have := mkRat_size (r.num * s.den + s.num * r.den) (r.den * s.den) (Nat.mul_ne_zero r.den_nz s.den_nz)
 refine ⟨Nat.le_trans this.1 ?_, this.2⟩
 refine Nat.le_trans (Int.natAbs_add_le _ _) ?_
 rw [Int.natAbs_mul, Int.natAbs_mul]
 simp
theorem signed_num' (neg : Bool) (n : Nat) : (if neg then -(n : Rat) else (n : Rat)).num = (if neg then -(n : Int) else (n : Int)) ∧ (if neg then -(n : Rat) else (n : Rat)).den = 1 := by
 cases neg
 · exact ⟨rfl, rfl⟩
 · exact ⟨rfl, rfl⟩
end Go.Proofs.YtccabfblgjcboaaGreatDoor.Lim

namespace Go.Proofs.YtccabfblgjcboaaGreatDoor
open Go Go.RowKit Go.Proofs Lim
theorem cF.mul {r s : Rat} {k j : Nat} (h1 : cF r k) (h2 : cF s j) : cF (r * s) (k + j) := by
 obtain ⟨a, b⟩ := mul_size r s
 exact ⟨Nat.lt_of_le_of_lt a (mul_lt_pow h1.1 h2.1), Nat.lt_of_le_of_lt b (mul_lt_pow h1.2 h2.2)⟩
theorem cF.add {r s : Rat} {k j : Nat} (h1 : cF r k) (h2 : cF s j) : cF (r + s) (k + j + 1) := by
 obtain ⟨a, b⟩ := add_size r s
 have e1 := mul_lt_pow h1.1 h2.2
 have e2 := mul_lt_pow h2.1 h1.2
 rw [Nat.add_comm j k] at e2
 have e3 := mul_lt_pow h1.2 h2.2
 have h : B ^ (k + j) * 2 ≤ B ^ (k + j + 1) := by rw [Nat.pow_succ]; exact Nat.mul_le_mul_left _ two_le_B
 refine ⟨?_, ?_⟩
 · refine Nat.lt_of_le_of_lt a ?_
   omega
 · refine Nat.lt_of_le_of_lt b ?_
   omega
theorem cF.sub {r s : Rat} {k j : Nat} (h1 : cF r k) (h2 : cF s j) : cF (r - s) (k + j + 1) := by
 rw [Rat.sub_eq_add_neg]
 exact h1.add h2.neg
theorem cF.zero (k : Nat) (h : 1 ≤ k) : cF 0 k := by
 have : 1 < B ^ k := Nat.lt_of_lt_of_le (show 1 < B ^ 1 by decide) (Nat.pow_le_pow_right cO h)
 exact ⟨by simp; omega, by simp; omega⟩
theorem cF.div {r s : Rat} {k j : Nat} (h1 : cF r k) (h2 : cF s j) (h0 : s.num ≠ 0) : cF (r / s) (k + j) := by
 rw [Rat.div_def]
 exact h1.mul (h2.inv h0)
theorem pow_ten_lt {L k : Nat} (h : L ≤ 19 * k) : 10 ^ L ≤ B ^ k := by
 refine Nat.le_trans (Nat.pow_le_pow_right (by omega) h) ?_
 rw [Nat.pow_mul]
 exact Nat.pow_le_pow_left (by decide) k
theorem cF.read (s : List UInt8) {L k : Nat} (h : s.length ≤ L) (h1 : 1 ≤ L) (hk : L ≤ 19 * k) : cF (readQ s).1 k := by
 obtain ⟨a, b⟩ := readQ_size s h h1
 exact ⟨Nat.lt_of_lt_of_le a (pow_ten_lt hk), Nat.lt_of_lt_of_le b (pow_ten_lt hk)⟩
open Go Go.RowKit Go.Proofs Lim
theorem index_slash (s : List UInt8) : Lib.index s [47] = if (s.dropWhile (· != 47)).isEmpty then -1 else ((s.takeWhile (· != 47)).length : Int) := by
 induction s with
 | nil => rfl
 | cons c s ih =>
  rw [Lib.index]
  by_cases hc : c = 47
  · subst hc; simp
  · have h1 : (c != 47) = true := by simpa using hc
    have h2 : ([47] : List UInt8).isPrefixOf (c :: s) = false := by
     simp [List.isPrefixOf]
     exact fun e => hc e.symm
    rw [h2, List.dropWhile_cons, List.takeWhile_cons, h1, ih]
    simp only [if_true, List.length_cons]
    by_cases he : (s.dropWhile (· != 47)).isEmpty = true
    · simp [he]
    · simp only [he]
      have : (((s.takeWhile (· != 47)).length : Int) == -1) = false := by rw [beq_eq_false_iff_ne]; omega
      simp [this]
theorem cut_slash (s : List UInt8) : Lib.cut s [47] = (s.takeWhile (· != 47), (s.dropWhile (· != 47)).tail, !(s.dropWhile (· != 47)).isEmpty) := by
 unfold Lib.cut
 rw [index_slash]
 have hs := (List.takeWhile_append_dropWhile (p := (· != (47 : UInt8))) (l := s)).symm
 by_cases he : (s.dropWhile (· != 47)).isEmpty = true
 · have h0 : s.dropWhile (· != 47) = [] := by simpa using he
   rw [if_pos he, if_neg (by decide), h0]
   rw [h0, List.append_nil] at hs
   rw [← hs]
   rfl
 · rw [if_neg he, if_pos (by omega)]
   generalize s.dropWhile (· != 47) = d at *
   generalize s.takeWhile (· != 47) = t at *
   subst hs
   have h1 : (!d.isEmpty) = true := by simpa using he
   rw [h1, Int.toNat_natCast]
   refine Prod.ext ?_ (Prod.ext ?_ rfl)
   · simp
   · simp only [List.length_singleton]
     rw [← List.drop_drop, List.drop_left, List.drop_one]
theorem prefix_minus (s : List UInt8) : Lib.hasPrefix s [45] = jd s ∧ Lib.trimPrefix s [45] = restOf s := by
 have h1 : Lib.hasPrefix s [45] = jd s := by
  unfold Lib.hasPrefix jd
  cases s with
  | nil => rfl
  | cons c s => simp [List.isPrefixOf]; rw [Bool.eq_iff_iff]; simp; exact eq_comm
 refine ⟨h1, ?_⟩
 unfold Lib.trimPrefix restOf
 rw [h1]
 cases s with
 | nil => simp
 | cons c s => simp
theorem cutPrefix_minus (l : List UInt8) (w : World) :
 Calls Tryz.prog 75 #[str l, .string ⟨#[45]⟩] w (fun e w' => e = .returned (.tuple #[str (restOf l), .bool (jd l)]) ∧ w = w') := by
 refine (Tryz.strings_CutPrefix ⟨l.toArray⟩ ⟨#[45]⟩ w).mono ?_
 rintro e w' ⟨rfl, rfl⟩
 refine ⟨?_, rfl⟩
 have := prefix_minus l
 show Ending.returned (.tuple #[.string ⟨(Lib.trimPrefix l [45]).toArray⟩, .bool (Lib.hasPrefix l [45])]) = _
 rw [this.1, this.2]
theorem cut_call (l : List UInt8) (hl : l.length ≤ 100000) (w : World) (hG : Gr w) :
 Calls Tryz.prog 76 #[str l, .string ⟨#[47]⟩] w (fun e w' => e = .returned (.tuple #[str (l.takeWhile (· != 47)), str (l.dropWhile (· != 47)).tail, .bool (!(l.dropWhile (· != 47)).isEmpty)]) ∧ ∃ n, w' = w.drewN n) := by
 obtain ⟨m, hm⟩ := hG.maxLen
 refine (Tryz.strings_Cut ⟨l.toArray⟩ ⟨#[47]⟩ m w (by have := str_size_le l hl (show 100000 ≤ 4294967280 by omega); omega) hm).mono ?_
 rintro e w' ⟨rfl, hw⟩
 refine ⟨?_, hw⟩
 have := cut_slash l
 show Ending.returned (.tuple #[.string ⟨(Lib.cut l [47]).1.toArray⟩, .string ⟨(Lib.cut l [47]).2.1.toArray⟩, .bool (Lib.cut l [47]).2.2]) = _
 rw [this]
def jq (w : World) (l : List UInt8) (e : Ending) (w' : World) : Prop :=
 ∃ v, e = .returned (.tuple #[v, .int .i64 (readQ l).2]) ∧ cR w' v (readQ l).1 ∧ Below w.heap.size w w'
theorem jq.err {w w' : World} {l : List UInt8} {k : Int} (hk : readQ l = (0, k)) (hb : Below w.heap.size w w') : jq w l (.returned (.tuple #[lo false 0 0, .int .i64 k])) w' := by
 refine ⟨lo false 0 0, by rw [hk], ?_, hb⟩
 rw [hk]
 exact Num.low 0 rfl rfl cO (show 1 < B by decide)
theorem readQ_none {l : List UInt8} (hl : ¬ 4000 < l.length) (h : parsed l = none) : readQ l = (0, 4) := by unfold readQ; rw [if_neg hl, h]
theorem readQ_some {l : List UInt8} {r : Rat} (hl : ¬ 4000 < l.length) (h : parsed l = some r) : readQ l = if qtext r = l then (r, 0) else (0, 4) := by unfold readQ; rw [if_neg hl, h]
theorem restOf_len (l : List UInt8) : (restOf l).length ≤ l.length := by unfold restOf; split <;> simp
theorem aboveOf_len (l : List UInt8) : (jj l).length ≤ l.length := by
 have h := congrArg List.length (List.takeWhile_append_dropWhile (p := (· != (47 : UInt8))) (l := restOf l))
 rw [List.length_append] at h
 have := restOf_len l
 unfold jj
 omega
theorem belowOf_len (l : List UInt8) : (cM l).length ≤ l.length + 1 := by
 unfold cM
 have h1 := restOf_len l
 have h := congrArg List.length (List.takeWhile_append_dropWhile (p := (· != (47 : UInt8))) (l := restOf l))
 rw [List.length_append] at h
 split
 · simp
 · rw [List.length_tail]; omega
theorem okNat_dig {l : List UInt8} (h : okNat l = true) : ∀ c ∈ l, isDig c = true := by
 unfold okNat at h
 rw [Bool.and_eq_true, List.all_eq_true] at h
 exact h.2
theorem dval_siz {l : List UInt8} {k : Nat} (h : okNat l = true) (hl : l.length ≤ 19 * k) : cU l < B ^ k :=
 Nat.lt_of_lt_of_le (dval_lt l (okNat_dig h)) (pow_ten_lt hl)
theorem one_lt_pow {k : Nat} (hk : 1 ≤ k) : 1 < B ^ k := Nat.lt_of_lt_of_le (show 1 < B ^ 1 by decide) (Nat.pow_le_pow_right cO hk)
theorem signed_siz {n k : Nat} (neg : Bool) (h : n < B ^ k) (hk : 1 ≤ k) : cF (signed neg n) k := by
 have h4 := signed_num' neg n
 have h1 := one_lt_pow hk
 unfold cF signed
 rw [h4.1, h4.2]
 refine ⟨?_, h1⟩
 cases neg
 · simpa using h
 · simpa using h
theorem nat_siz {n k : Nat} (h : n < B ^ k) (hk : 1 ≤ k) : cF ((n : Nat) : Rat) k := by
 refine ⟨?_, one_lt_pow hk⟩
 show ((n : Nat) : Int).natAbs < B ^ k
 simpa using h
theorem read_any (l : List UInt8) (w : World) (hl : l.length ≤ 100000) (hG : Gr w) : Calls Tryz.prog 11 #[str l] w (jq w l) := by
 by_cases h4 : 4000 < l.length
 · have hr : readQ l = (0, 5) := by unfold readQ; rw [if_pos h4]
   have HR := Lib.hid hr
   have hi : (4000 : Int) < (l.length : Int) := by omega
   clear hr h4 hG
   go_enter Tryz.func11, Tryz.ntmps11
   go_wp2_with fail
   refine bodyPost_ret (v := .tuple #[lo false 0 0, .int .i64 5]) (by simp [results, Tryz.results11, go_sem]) rfl ?_
   exact jq.err HR.out (cu w _)
 · have hi : ¬ (4000 : Int) < (l.length : Int) := by omega
   have HG := Lib.hid hG
   have H4 := Lib.hid h4
   have HNA := Lib.hid (fun W (hW : Below w.heap.size w W) => readNatural_any (jj l) W (by have := aboveOf_len l; omega) (hG.below hW hG.size))
   have HNB := Lib.hid (fun W (hW : Below w.heap.size w W) => readNatural_any (cM l) W (by have := belowOf_len l; omega) (hG.below hW hG.size))
   have HCut := Lib.hid (fun W (hW : Below w.heap.size w W) => cut_call (restOf l) (by have := restOf_len l; omega) W (hG.below hW hG.size))
   clear hG h4
   go_enter Tryz.func11, Tryz.ntmps11
   go_wp2_with fail
   refine (cutPrefix_minus l _).mono ?_
   rintro e w1 ⟨rfl, rfl⟩
   go_wp2_with fail
   obtain ⟨W0, hW0, hb0, hz, hs⟩ := boxz w; rw [← hW0]; clear hW0; have HZ := Lib.hid hz; have HW0 := Lib.hid hb0; have hb0 := Below.refl W0.heap.size W0; clear hz
   clear hs
   refine (HCut.out _ HW0.out).mono ?_
   rintro e W2 ⟨rfl, q, rfl⟩
   have HA2 : Hid (Below W0.heap.size W0 (W0.drewN q)) := bdrewN hb0
   clear hb0
   generalize W0.drewN q = W2 at *
   by_cases hs : ((restOf l).dropWhile (· != 47)).isEmpty = true
   · have hbe : cM l = [49] := by unfold cM; rw [if_pos hs]
     have HNB := Lib.hid (fun W hW => show Calls Tryz.prog 77 #[.string ⟨#[49]⟩] W (ReadNatPost W (cM l)) from (by
      have := HNB.out W hW
      rw [show str (cM l) = .string ⟨#[49]⟩ from by rw [hbe]] at this
      exact this))
     rw [hs]
     show _
     rw [show (restOf l).takeWhile (· != 47) = jj l from rfl]
     clear hs hbe
     go_wp2_with fail
     refine (HNA.out _ (cf HW0.out HA2.out)).mono ?_
     rintro e W3 (⟨hok1, va, rfl, hva, hb⟩ | ⟨hok1, rfl, hb⟩)
     · have HVA := Lib.hid hva
       have HO1 := Lib.hid hok1
       have HA3 := Lib.hid (cf HA2.out hb)
       obtain ⟨aa, al, ac, rfl, _⟩ := hva.form
       clear hva hok1 hb HNA HA2
       go_wp2_with fail
       refine (HNB.out _ (cf HW0.out HA3.out)).mono ?_
       rintro e W4 (⟨hok2, vb, rfl, hvb, hb⟩ | ⟨hok2, rfl, hb⟩)
       · obtain ⟨ba, bl, bc, rfl, _, hbz, _⟩ := hvb.form
         have HVB := Lib.hid hvb
         have HVA := Lib.hid (HVA.out.below hb (Nat.le_refl _))
         have HO2 := Lib.hid hok2
         have HA4 := Lib.hid (cf HA3.out hb)
         by_cases hd0 : cU (cM l) = 0
         · have hbl : bl = 0 := hbz.2 hd0
           have HD0 := Lib.hid hd0
           subst hbl
           clear hvb hok2 hb HNB HA3 hbz hd0
           have hfin := jq.err (readQ_none H4.out (by unfold parsed; rw [HO1.out, HO2.out, HD0.out]; rfl)) (js HW0.out HA4.out (Nat.le_refl _) (.bool false) (.int .u64 0) (.int .u64 0) (.pointer none))
           have HFin := Lib.hid hfin
           (have hz := HZ.out.below HA4.out (Nat.le_refl _); have zf := hz.frozen; obtain ⟨z0, z1, z2, z3⟩ := hz.cells; have zf0 := zf 0; have zf1 := zf 1; have zf2 := zf 2; have zf3 := zf 3; clear zf hz)
           clear hfin
           go_wp2_with fail
           refine bodyPost_ret (v := .tuple #[lo false 0 0, .int .i64 4]) (by simp [results, Tryz.results11, go_sem, z0, z1, z2, z3]) rfl ?_
           exact HFin.out
         · have hbl : (((bl : Nat) : Int) == 0) = false := by rw [beq_eq_false_iff_ne]; intro e; exact hd0 (hbz.1 (by omega))
           have hpar : parsed l = some (signed (jd l) (cU (jj l)) * ((cU (cM l) : Nat) : Rat)⁻¹) := by
            unfold parsed
            rw [HO1.out, HO2.out, Bool.true_and, Bool.true_and, if_pos (by simpa using hd0)]
           have HPar := Lib.hid (readQ_some H4.out hpar)
           have HWn := Lib.hid (fun v W (hv : co W v (cU (jj l))) => (whole_any (jd l) v _ W hv).mono fun e W' h => h.q (r := signed (jd l) (cU (jj l))) (signed_num' _ _).1 (signed_num' _ _).2)
           have HWd := Lib.hid (fun v W (hv : co W v (cU (cM l))) => (whole_any false v _ W hv).mono fun e W' h => h.q (r := ((cU (cM l) : Nat) : Rat)) rfl rfl)
           have hdn : (((cU (cM l) : Nat) : Rat)).num ≠ 0 := by
            show ((cU (cM l) : Nat) : Int) ≠ 0
            omega
           have HRc := Lib.hid (fun v W (hv : cR W v ((cU (cM l) : Nat) : Rat)) => recip_q v _ W hv hdn)
           obtain ⟨K, hK1, hK2, hK3⟩ : ∃ K : Nat, 4001 ≤ 19 * K ∧ (K : Int) ≤ 1073741824 ∧ ((K + K : Nat) : Int) ≤ 1073741824 := ⟨300, by omega, by omega, by omega⟩
           have hz1 := signed_siz (k := K) (jd l) (dval_siz HO1.out (by have := aboveOf_len l; omega)) (by omega)
           have hz2 := nat_siz (k := K) (dval_siz HO2.out (by have := belowOf_len l; omega)) (by omega)
           have hz3 := hz2.inv hdn
           have HTm := Lib.hid (fun v1 v2 W h1 h2 hG => timesWide_q v1 v2 (signed (jd l) (cU (jj l))) ((cU (cM l) : Nat) : Rat)⁻¹ K W h1 h2 hz1 hz3 hK2 hG)
           have HTx := Lib.hid (fun v W h => text_q v (signed (jd l) (cU (jj l)) * ((cU (cM l) : Nat) : Rat)⁻¹) (K + K) W h (hz1.mul hz3) hK3)
           clear hz1 hz2 hz3 hK1 hK2 hK3 hdn hpar hvb hok2 hb HNB HA3 hbz hd0
           generalize signed (jd l) (cU (jj l)) = qn at *
           generalize hdv : ((cU (cM l) : Nat) : Rat) = qd at *
           go_wp2_with fail
           refine (HWn.out _ _ HVA.out).mono ?_
           rintro e W5 ⟨v1, rfl, hv1, hb⟩
           have HV1 := Lib.hid hv1
           have HVB := Lib.hid (HVB.out.below hb (Nat.le_refl _))
           have HA5 := Lib.hid (cf HA4.out hb)
           obtain ⟨_, _, _, _, rfl⟩ := hv1.form
           clear hv1 hb HWn HA4 HVA hdv
           go_wp2_with fail
           refine (HWd.out _ _ HVB.out).mono ?_
           rintro e W6 ⟨v2, rfl, hv2, hb⟩
           have HV1 := Lib.hid (HV1.out.below hb (Nat.le_refl _))
           have HV2 := Lib.hid hv2
           have HA6 := Lib.hid (cf HA5.out hb)
           obtain ⟨_, _, _, _, rfl⟩ := hv2.form
           clear hv2 hb HWd HA5 HVB
           go_wp2_with fail
           refine (HRc.out _ _ HV2.out).mono ?_
           rintro e W7 ⟨v3, rfl, hv3, hb⟩
           have HV1 := Lib.hid (HV1.out.below hb (Nat.le_refl _))
           have HV3 := Lib.hid hv3
           have HA7 := Lib.hid (cf HA6.out hb)
           obtain ⟨_, _, _, _, rfl⟩ := hv3.form
           clear hv3 hb HRc HA6 HV2
           go_wp2_with fail
           refine (HTm.out _ _ _ HV1.out HV3.out (HG.out.below (cf HW0.out HA7.out) HG.out.size)).mono ?_
           rintro e W8 ⟨v4, rfl, hv4, hb⟩
           have HV4 := Lib.hid hv4
           have HA8 := Lib.hid (cf HA7.out hb)
           obtain ⟨sx, ax, bx, px, rfl⟩ := hv4.form
           clear hv4 hb HTm HA7 HV1 HV3
           have hlt : w.heap.size < W8.heap.size := World.block_lt_of_cell? W8 ⟨w.heap.size, 0, none⟩ (HZ.out.below HA8.out (Nat.le_refl _)).cells.1
           go_wp2_with fail
           obtain ⟨W9, hW, hb, ⟨g0, g1, g2, g3⟩⟩ := box1 W8 (.bool sx) (u ax) (u bx) (.pointer px); rw [← hW]; clear hW
           have HV4 := Lib.hid (HV4.out.below hb (Nat.le_refl _))
           have HA9 := Lib.hid (cf HA8.out hb)
           have m1 : ¬ w.heap.size = W8.heap.size := by omega
           have m2 : ¬ W8.heap.size = w.heap.size := by omega
           clear hb HA8 hlt
           generalize W8.heap.size = bx1 at *
           refine (HTx.out _ _ HV4.out).mono ?_
           rintro e W10 ⟨rfl, hb⟩
           (have hh := cq (b := bx1) hb g0 g1 g2 g3; clear g0 g1 g2 g3; obtain ⟨g0, g1, g2, g3⟩ := hh)
           have HV4 := Lib.hid (HV4.out.below hb (Nat.le_refl _))
           have HAx := Lib.hid (cf HA9.out hb)
           clear hb HA9 HTx
           by_cases hq : qtext (qn * qd⁻¹) = l
           · rw [hq]
             have hp := HPar.out
             rw [if_pos hq] at hp
             have hz := HZ.out.below HAx.out (Nat.le_refl _)
             have hfin := cX.stored (a0 := .bool sx) (a1 := u ax) (a2 := u bx) (a3 := .pointer px) hz HV4.out (cf HW0.out HAx.out) (Nat.le_refl _)
             have HFin := Lib.hid hfin
             have HPv := Lib.hid hp
             (have hz := HZ.out.below HAx.out (Nat.le_refl _); have zf := hz.frozen; obtain ⟨z0, z1, z2, z3⟩ := hz.cells; have zf0 := zf 0; have zf1 := zf 1; have zf2 := zf 2; have zf3 := zf 3; clear zf hz)
             clear hfin hz hq hp HPar
             go_wp2_with fail
             refine bodyPost_ret (v := .tuple #[.agg #[.bool sx, u ax, u bx, .pointer px], .int .i64 0]) (by simp [results, Tryz.results11, go_sem, z0, z1, z2, z3]) rfl ?_
             obtain ⟨v, hv, hqq, hbb⟩ := HFin.out
             injection hv with hv
             subst hv
             refine ⟨_, by rw [HPv.out], ?_, hbb⟩
             rw [HPv.out]
             exact hqq
           · have hp := HPar.out
             rw [if_neg hq] at hp
             have hfin := jq.err hp (js HW0.out HAx.out (Nat.le_refl _) (.bool false) (.int .u64 0) (.int .u64 0) (.pointer none))
             have HFin := Lib.hid hfin
             (have hz := HZ.out.below HAx.out (Nat.le_refl _); have zf := hz.frozen; obtain ⟨z0, z1, z2, z3⟩ := hz.cells; have zf0 := zf 0; have zf1 := zf 1; have zf2 := zf 2; have zf3 := zf 3; clear zf hz)
             clear hfin hp HPar HV4
             generalize qtext (qn * qd⁻¹) = tq at *
             have hqb : (tq == l) = false := by simpa using hq
             clear hq
             go_wp2_with fail
             refine bodyPost_ret (v := .tuple #[lo false 0 0, .int .i64 4]) (by simp [results, Tryz.results11, go_sem, z0, z1, z2, z3]) rfl ?_
             exact HFin.out
       · have HO2 := Lib.hid hok2
         have HA4 := Lib.hid (cf HA3.out hb)
         clear hok2 hb HNB HA3 HVA
         have hfin := jq.err (readQ_none H4.out (by unfold parsed; rw [HO2.out, Bool.and_false, Bool.false_and]; rfl)) (js HW0.out HA4.out (Nat.le_refl _) (.bool false) (.int .u64 0) (.int .u64 0) (.pointer none))
         have HFin := Lib.hid hfin
         (have hz := HZ.out.below HA4.out (Nat.le_refl _); have zf := hz.frozen; obtain ⟨z0, z1, z2, z3⟩ := hz.cells; have zf0 := zf 0; have zf1 := zf 1; have zf2 := zf 2; have zf3 := zf 3; clear zf hz)
         clear hfin
         go_wp2_with fail
         refine bodyPost_ret (v := .tuple #[lo false 0 0, .int .i64 4]) (by simp [results, Tryz.results11, go_sem, z0, z1, z2, z3]) rfl ?_
         exact HFin.out
     · have HO1 := Lib.hid hok1
       have HA3 := Lib.hid (cf HA2.out hb)
       clear hok1 hb HNA HA2
       go_wp2_with fail
       refine (HNB.out _ (cf HW0.out HA3.out)).mono ?_
       rintro e W4 (⟨hok2, vb, rfl, hvb, hb⟩ | ⟨hok2, rfl, hb⟩)
       · obtain ⟨ba, bl, bc, rfl, _⟩ := hvb.form
         have HA4 := Lib.hid (cf HA3.out hb)
         clear hvb hok2 hb HNB HA3
         have hfin := jq.err (readQ_none H4.out (by unfold parsed; rw [HO1.out, Bool.false_and, Bool.false_and]; rfl)) (js HW0.out HA4.out (Nat.le_refl _) (.bool false) (.int .u64 0) (.int .u64 0) (.pointer none))
         have HFin := Lib.hid hfin
         (have hz := HZ.out.below HA4.out (Nat.le_refl _); have zf := hz.frozen; obtain ⟨z0, z1, z2, z3⟩ := hz.cells; have zf0 := zf 0; have zf1 := zf 1; have zf2 := zf 2; have zf3 := zf 3; clear zf hz)
         clear hfin
         go_wp2_with fail
         refine bodyPost_ret (v := .tuple #[lo false 0 0, .int .i64 4]) (by simp [results, Tryz.results11, go_sem, z0, z1, z2, z3]) rfl ?_
         exact HFin.out
       · have HA4 := Lib.hid (cf HA3.out hb)
         clear hok2 hb HNB HA3
         have hfin := jq.err (readQ_none H4.out (by unfold parsed; rw [HO1.out, Bool.false_and, Bool.false_and]; rfl)) (js HW0.out HA4.out (Nat.le_refl _) (.bool false) (.int .u64 0) (.int .u64 0) (.pointer none))
         have HFin := Lib.hid hfin
         (have hz := HZ.out.below HA4.out (Nat.le_refl _); have zf := hz.frozen; obtain ⟨z0, z1, z2, z3⟩ := hz.cells; have zf0 := zf 0; have zf1 := zf 1; have zf2 := zf 2; have zf3 := zf 3; clear zf hz)
         clear hfin
         go_wp2_with fail
         refine bodyPost_ret (v := .tuple #[lo false 0 0, .int .i64 4]) (by simp [results, Tryz.results11, go_sem, z0, z1, z2, z3]) rfl ?_
         exact HFin.out
   · have hs : ((restOf l).dropWhile (· != 47)).isEmpty = false := by simpa using hs
     have hbe : ((restOf l).dropWhile (· != 47)).tail = cM l := by unfold cM; rw [hs]; rfl
     rw [hs, hbe, show (restOf l).takeWhile (· != 47) = jj l from rfl]
     clear hs hbe
     go_wp2_with fail
     refine (HNA.out _ (cf HW0.out HA2.out)).mono ?_
     rintro e W3 (⟨hok1, va, rfl, hva, hb⟩ | ⟨hok1, rfl, hb⟩)
     · have HVA := Lib.hid hva
       have HO1 := Lib.hid hok1
       have HA3 := Lib.hid (cf HA2.out hb)
       obtain ⟨aa, al, ac, rfl, _⟩ := hva.form
       clear hva hok1 hb HNA HA2
       go_wp2_with fail
       refine (HNB.out _ (cf HW0.out HA3.out)).mono ?_
       rintro e W4 (⟨hok2, vb, rfl, hvb, hb⟩ | ⟨hok2, rfl, hb⟩)
       · obtain ⟨ba, bl, bc, rfl, _, hbz, _⟩ := hvb.form
         have HVB := Lib.hid hvb
         have HVA := Lib.hid (HVA.out.below hb (Nat.le_refl _))
         have HO2 := Lib.hid hok2
         have HA4 := Lib.hid (cf HA3.out hb)
         by_cases hd0 : cU (cM l) = 0
         · have hbl : bl = 0 := hbz.2 hd0
           have HD0 := Lib.hid hd0
           subst hbl
           clear hvb hok2 hb HNB HA3 hbz hd0
           have hfin := jq.err (readQ_none H4.out (by unfold parsed; rw [HO1.out, HO2.out, HD0.out]; rfl)) (js HW0.out HA4.out (Nat.le_refl _) (.bool false) (.int .u64 0) (.int .u64 0) (.pointer none))
           have HFin := Lib.hid hfin
           (have hz := HZ.out.below HA4.out (Nat.le_refl _); have zf := hz.frozen; obtain ⟨z0, z1, z2, z3⟩ := hz.cells; have zf0 := zf 0; have zf1 := zf 1; have zf2 := zf 2; have zf3 := zf 3; clear zf hz)
           clear hfin
           go_wp2_with fail
           refine bodyPost_ret (v := .tuple #[lo false 0 0, .int .i64 4]) (by simp [results, Tryz.results11, go_sem, z0, z1, z2, z3]) rfl ?_
           exact HFin.out
         · have hbl : (((bl : Nat) : Int) == 0) = false := by rw [beq_eq_false_iff_ne]; intro e; exact hd0 (hbz.1 (by omega))
           have hpar : parsed l = some (signed (jd l) (cU (jj l)) * ((cU (cM l) : Nat) : Rat)⁻¹) := by
            unfold parsed
            rw [HO1.out, HO2.out, Bool.true_and, Bool.true_and, if_pos (by simpa using hd0)]
           have HPar := Lib.hid (readQ_some H4.out hpar)
           have HWn := Lib.hid (fun v W (hv : co W v (cU (jj l))) => (whole_any (jd l) v _ W hv).mono fun e W' h => h.q (r := signed (jd l) (cU (jj l))) (signed_num' _ _).1 (signed_num' _ _).2)
           have HWd := Lib.hid (fun v W (hv : co W v (cU (cM l))) => (whole_any false v _ W hv).mono fun e W' h => h.q (r := ((cU (cM l) : Nat) : Rat)) rfl rfl)
           have hdn : (((cU (cM l) : Nat) : Rat)).num ≠ 0 := by
            show ((cU (cM l) : Nat) : Int) ≠ 0
            omega
           have HRc := Lib.hid (fun v W (hv : cR W v ((cU (cM l) : Nat) : Rat)) => recip_q v _ W hv hdn)
           obtain ⟨K, hK1, hK2, hK3⟩ : ∃ K : Nat, 4001 ≤ 19 * K ∧ (K : Int) ≤ 1073741824 ∧ ((K + K : Nat) : Int) ≤ 1073741824 := ⟨300, by omega, by omega, by omega⟩
           have hz1 := signed_siz (k := K) (jd l) (dval_siz HO1.out (by have := aboveOf_len l; omega)) (by omega)
           have hz2 := nat_siz (k := K) (dval_siz HO2.out (by have := belowOf_len l; omega)) (by omega)
           have hz3 := hz2.inv hdn
           have HTm := Lib.hid (fun v1 v2 W h1 h2 hG => timesWide_q v1 v2 (signed (jd l) (cU (jj l))) ((cU (cM l) : Nat) : Rat)⁻¹ K W h1 h2 hz1 hz3 hK2 hG)
           have HTx := Lib.hid (fun v W h => text_q v (signed (jd l) (cU (jj l)) * ((cU (cM l) : Nat) : Rat)⁻¹) (K + K) W h (hz1.mul hz3) hK3)
           clear hz1 hz2 hz3 hK1 hK2 hK3 hdn hpar hvb hok2 hb HNB HA3 hbz hd0
           generalize signed (jd l) (cU (jj l)) = qn at *
           generalize hdv : ((cU (cM l) : Nat) : Rat) = qd at *
           go_wp2_with fail
           refine (HWn.out _ _ HVA.out).mono ?_
           rintro e W5 ⟨v1, rfl, hv1, hb⟩
           have HV1 := Lib.hid hv1
           have HVB := Lib.hid (HVB.out.below hb (Nat.le_refl _))
           have HA5 := Lib.hid (cf HA4.out hb)
           obtain ⟨_, _, _, _, rfl⟩ := hv1.form
           clear hv1 hb HWn HA4 HVA hdv
           go_wp2_with fail
           refine (HWd.out _ _ HVB.out).mono ?_
           rintro e W6 ⟨v2, rfl, hv2, hb⟩
           have HV1 := Lib.hid (HV1.out.below hb (Nat.le_refl _))
           have HV2 := Lib.hid hv2
           have HA6 := Lib.hid (cf HA5.out hb)
           obtain ⟨_, _, _, _, rfl⟩ := hv2.form
           clear hv2 hb HWd HA5 HVB
           go_wp2_with fail
           refine (HRc.out _ _ HV2.out).mono ?_
           rintro e W7 ⟨v3, rfl, hv3, hb⟩
           have HV1 := Lib.hid (HV1.out.below hb (Nat.le_refl _))
           have HV3 := Lib.hid hv3
           have HA7 := Lib.hid (cf HA6.out hb)
           obtain ⟨_, _, _, _, rfl⟩ := hv3.form
           clear hv3 hb HRc HA6 HV2
           go_wp2_with fail
           refine (HTm.out _ _ _ HV1.out HV3.out (HG.out.below (cf HW0.out HA7.out) HG.out.size)).mono ?_
           rintro e W8 ⟨v4, rfl, hv4, hb⟩
           have HV4 := Lib.hid hv4
           have HA8 := Lib.hid (cf HA7.out hb)
           obtain ⟨sx, ax, bx, px, rfl⟩ := hv4.form
           clear hv4 hb HTm HA7 HV1 HV3
           have hlt : w.heap.size < W8.heap.size := World.block_lt_of_cell? W8 ⟨w.heap.size, 0, none⟩ (HZ.out.below HA8.out (Nat.le_refl _)).cells.1
           go_wp2_with fail
           obtain ⟨W9, hW, hb, ⟨g0, g1, g2, g3⟩⟩ := box1 W8 (.bool sx) (u ax) (u bx) (.pointer px); rw [← hW]; clear hW
           have HV4 := Lib.hid (HV4.out.below hb (Nat.le_refl _))
           have HA9 := Lib.hid (cf HA8.out hb)
           have m1 : ¬ w.heap.size = W8.heap.size := by omega
           have m2 : ¬ W8.heap.size = w.heap.size := by omega
           clear hb HA8 hlt
           generalize W8.heap.size = bx1 at *
           refine (HTx.out _ _ HV4.out).mono ?_
           rintro e W10 ⟨rfl, hb⟩
           (have hh := cq (b := bx1) hb g0 g1 g2 g3; clear g0 g1 g2 g3; obtain ⟨g0, g1, g2, g3⟩ := hh)
           have HV4 := Lib.hid (HV4.out.below hb (Nat.le_refl _))
           have HAx := Lib.hid (cf HA9.out hb)
           clear hb HA9 HTx
           by_cases hq : qtext (qn * qd⁻¹) = l
           · rw [hq]
             have hp := HPar.out
             rw [if_pos hq] at hp
             have hz := HZ.out.below HAx.out (Nat.le_refl _)
             have hfin := cX.stored (a0 := .bool sx) (a1 := u ax) (a2 := u bx) (a3 := .pointer px) hz HV4.out (cf HW0.out HAx.out) (Nat.le_refl _)
             have HFin := Lib.hid hfin
             have HPv := Lib.hid hp
             (have hz := HZ.out.below HAx.out (Nat.le_refl _); have zf := hz.frozen; obtain ⟨z0, z1, z2, z3⟩ := hz.cells; have zf0 := zf 0; have zf1 := zf 1; have zf2 := zf 2; have zf3 := zf 3; clear zf hz)
             clear hfin hz hq hp HPar
             go_wp2_with fail
             refine bodyPost_ret (v := .tuple #[.agg #[.bool sx, u ax, u bx, .pointer px], .int .i64 0]) (by simp [results, Tryz.results11, go_sem, z0, z1, z2, z3]) rfl ?_
             obtain ⟨v, hv, hqq, hbb⟩ := HFin.out
             injection hv with hv
             subst hv
             refine ⟨_, by rw [HPv.out], ?_, hbb⟩
             rw [HPv.out]
             exact hqq
           · have hp := HPar.out
             rw [if_neg hq] at hp
             have hfin := jq.err hp (js HW0.out HAx.out (Nat.le_refl _) (.bool false) (.int .u64 0) (.int .u64 0) (.pointer none))
             have HFin := Lib.hid hfin
             (have hz := HZ.out.below HAx.out (Nat.le_refl _); have zf := hz.frozen; obtain ⟨z0, z1, z2, z3⟩ := hz.cells; have zf0 := zf 0; have zf1 := zf 1; have zf2 := zf 2; have zf3 := zf 3; clear zf hz)
             clear hfin hp HPar HV4
             generalize qtext (qn * qd⁻¹) = tq at *
             have hqb : (tq == l) = false := by simpa using hq
             clear hq
             go_wp2_with fail
             refine bodyPost_ret (v := .tuple #[lo false 0 0, .int .i64 4]) (by simp [results, Tryz.results11, go_sem, z0, z1, z2, z3]) rfl ?_
             exact HFin.out
       · have HO2 := Lib.hid hok2
         have HA4 := Lib.hid (cf HA3.out hb)
         clear hok2 hb HNB HA3 HVA
         have hfin := jq.err (readQ_none H4.out (by unfold parsed; rw [HO2.out, Bool.and_false, Bool.false_and]; rfl)) (js HW0.out HA4.out (Nat.le_refl _) (.bool false) (.int .u64 0) (.int .u64 0) (.pointer none))
         have HFin := Lib.hid hfin
         (have hz := HZ.out.below HA4.out (Nat.le_refl _); have zf := hz.frozen; obtain ⟨z0, z1, z2, z3⟩ := hz.cells; have zf0 := zf 0; have zf1 := zf 1; have zf2 := zf 2; have zf3 := zf 3; clear zf hz)
         clear hfin
         go_wp2_with fail
         refine bodyPost_ret (v := .tuple #[lo false 0 0, .int .i64 4]) (by simp [results, Tryz.results11, go_sem, z0, z1, z2, z3]) rfl ?_
         exact HFin.out
     · have HO1 := Lib.hid hok1
       have HA3 := Lib.hid (cf HA2.out hb)
       clear hok1 hb HNA HA2
       go_wp2_with fail
       refine (HNB.out _ (cf HW0.out HA3.out)).mono ?_
       rintro e W4 (⟨hok2, vb, rfl, hvb, hb⟩ | ⟨hok2, rfl, hb⟩)
       · obtain ⟨ba, bl, bc, rfl, _⟩ := hvb.form
         have HA4 := Lib.hid (cf HA3.out hb)
         clear hvb hok2 hb HNB HA3
         have hfin := jq.err (readQ_none H4.out (by unfold parsed; rw [HO1.out, Bool.false_and, Bool.false_and]; rfl)) (js HW0.out HA4.out (Nat.le_refl _) (.bool false) (.int .u64 0) (.int .u64 0) (.pointer none))
         have HFin := Lib.hid hfin
         (have hz := HZ.out.below HA4.out (Nat.le_refl _); have zf := hz.frozen; obtain ⟨z0, z1, z2, z3⟩ := hz.cells; have zf0 := zf 0; have zf1 := zf 1; have zf2 := zf 2; have zf3 := zf 3; clear zf hz)
         clear hfin
         go_wp2_with fail
         refine bodyPost_ret (v := .tuple #[lo false 0 0, .int .i64 4]) (by simp [results, Tryz.results11, go_sem, z0, z1, z2, z3]) rfl ?_
         exact HFin.out
       · have HA4 := Lib.hid (cf HA3.out hb)
         clear hok2 hb HNB HA3
         have hfin := jq.err (readQ_none H4.out (by unfold parsed; rw [HO1.out, Bool.false_and, Bool.false_and]; rfl)) (js HW0.out HA4.out (Nat.le_refl _) (.bool false) (.int .u64 0) (.int .u64 0) (.pointer none))
         have HFin := Lib.hid hfin
         (have hz := HZ.out.below HA4.out (Nat.le_refl _); have zf := hz.frozen; obtain ⟨z0, z1, z2, z3⟩ := hz.cells; have zf0 := zf 0; have zf1 := zf 1; have zf2 := zf 2; have zf3 := zf 3; clear zf hz)
         clear hfin
         go_wp2_with fail
         refine bodyPost_ret (v := .tuple #[lo false 0 0, .int .i64 4]) (by simp [results, Tryz.results11, go_sem, z0, z1, z2, z3]) rfl ?_
         exact HFin.out
end Go.Proofs.YtccabfblgjcboaaGreatDoor
