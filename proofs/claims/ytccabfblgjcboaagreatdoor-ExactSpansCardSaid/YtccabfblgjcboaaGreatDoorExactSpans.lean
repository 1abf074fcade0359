/- ExactSpans: for all texts the call returns true: sums, differences, products, quotients, squares, absolute values, the hull and the meet of any two spans, or the errors, are those of the document. No condition. -/
import Derived.Test.YtccabfblgjcboaaGreatDoorK5
import Derived.Test.YtccabfblgjcboaaGreatDoorKF
set_option linter.unusedVariables false
set_option linter.unusedSimpArgs false

namespace Go.Proofs.YtccabfblgjcboaaGreatDoor
open Go Go.RowKit Go.Proofs Lim
namespace Sym
theorem meet_cmp (a b c d : Rat) : cmpQ (highOf (lowOf a [b]) [lowOf c [d]]) (lowOf (highOf a [b]) [highOf c [d]]) = cmpQ (maxQ (minQ a b) (minQ c d)) (minQ (maxQ a b) (maxQ c d)) := by
  rw [low2, low2, high2, high2, high2, low2]
theorem has_end {c d : Rat} (h : hasQ c d 0 = false) : decide ((minQ c d).num = 0) = false ∧ decide ((maxQ c d).num = 0) = false := by
  have key : ∀ x, x = minQ c d ∨ x = maxQ c d → decide (x.num = 0) = false := by
    intro x hx
    refine decide_eq_false fun e => ?_
    have e : x = 0 := Rat.num_eq_zero.1 e
    subst e
    have h1 := min_le_max c d
    rw [has_R] at h
    unfold hasR at h
    rcases hx with hx | hx <;> rw [← hx] at h h1 <;> simp [h1] at h
  exact ⟨key _ (.inl rfl), key _ (.inr rfl)⟩
abbrev cl_ss (la lb lc ld le : List UInt8) (a b c d e : Rat) : List Cl := [clV (str la),
  clV (str lb),
  clV (str lc),
  clV (str ld),
  clV (str le),
  clQ (a) 7,
  clQ (b) 7,
  clR (minQ a b) 400,
  clR (maxQ a b) 400,
  clQ (c) 7,
  clQ (d) 7,
  clR (minQ c d) 400,
  clR (maxQ c d) 400,
  clQ (e) 7,
  clR (e) 7,
  clQ (0) 15,
  clR (((0 : Int) : Rat)) 1,
  clQ (wLow (fun r s => r + s) a b c d) 57,
  clQ (wHigh (fun r s => r + s) a b c d) 57,
  clR ((minQ a b) + (minQ c d)) 801,
  clR ((maxQ a b) + (maxQ c d)) 801,
  clQ (wLow (fun r s => r - s) a b c d) 57,
  clQ (wHigh (fun r s => r - s) a b c d) 57,
  clR ((minQ a b) + ((-(maxQ c d)))) 801,
  clR ((maxQ a b) + ((-(minQ c d)))) 801,
  clQ (wLow (fun r s => r * s) a b c d) 57,
  clQ (wHigh (fun r s => r * s) a b c d) 57,
  clR (lowR ((minQ a b) * (minQ c d)) [(minQ a b) * (maxQ c d), (maxQ a b) * (minQ c d), (maxQ a b) * (maxQ c d)]) 800,
  clR (highR ((minQ a b) * (minQ c d)) [(minQ a b) * (maxQ c d), (maxQ a b) * (minQ c d), (maxQ a b) * (maxQ c d)]) 800,
  clQ (lowOf a [b, c, d]) 28,
  clQ (highOf a [b, c, d]) 28,
  clR (minQ (minQ a b) (minQ c d)) 400,
  clR (maxQ (maxQ a b) (maxQ c d)) 400,
  clQ (lowOf a [b]) 14,
  clQ (highOf a [b]) 14,
  clQ (lowOf (a * a) (turnVals (hasQ a b 0) (b * b) (0 * 0))) 28,
  clQ (highOf (a * a) (turnVals (hasQ a b 0) (b * b) (0 * 0))) 28,
  clR (lowOf (a * a) (turnVals (hasQ a b 0) (b * b) (0 * 0))) 4862,
  clR (highOf (a * a) (turnVals (hasQ a b 0) (b * b) (0 * 0))) 4862,
  clQ (lowOf (absQ a) (turnVals (hasQ a b 0) (absQ b) (absQ 0))) 28,
  clQ (highOf (absQ a) (turnVals (hasQ a b 0) (absQ b) (absQ 0))) 28,
  clR (lowOf (absQ a) (turnVals (hasQ a b 0) (absQ b) (absQ 0))) 400,
  clR (highOf (absQ a) (turnVals (hasQ a b 0) (absQ b) (absQ 0))) 400,
  clQ (highOf (lowOf a [b]) [lowOf c [d]]) 10000,
  clQ (lowOf (highOf a [b]) [highOf c [d]]) 10000,
  clR (maxQ (minQ a b) (minQ c d)) 400,
  clR (minQ (maxQ a b) (maxQ c d)) 400,
  clQ (wLow (fun r s => r * s⁻¹) a b c d) 56,
  clQ (wHigh (fun r s => r * s⁻¹) a b c d) 56,
  clR (lowR ((minQ a b) / (minQ c d)) [(minQ a b) / (maxQ c d), (maxQ a b) / (minQ c d), (maxQ a b) / (maxQ c d)]) 800,
  clR (highR ((minQ a b) / (minQ c d)) [(minQ a b) / (maxQ c d), (maxQ a b) / (minQ c d), (maxQ a b) / (maxQ c d)]) 800]
noncomputable abbrev C_ss (la lb lc ld le : List UInt8) (a b c d e : Rat) (w : World) : Ctx := mkC [1, 1, 1, 1, 1, 4, 4, 3, 3, 4, 4, 3, 3, 4, 3, 4, 3, 4, 4, 3, 3, 4, 4, 3, 3, 4, 4, 3, 3, 4, 4, 3, 3, 4, 4, 4, 4, 3, 3, 4, 4, 3, 3, 4, 4, 3, 3, 4, 4, 3, 3] [true, true, true, true, true, true, true, true, true, true, true, true, true, true, true, true, true, true, true, true, true, true, true, true, true, true, true, true, true, true, true, true, true, true, true, true, true, true, true, true, true, true, true, true, true, true, true, true, true, true, true] okS 176 (cl_ss la lb lc ld le a b c d e) w
theorem ss_C (la lb lc ld le : List UInt8) (a b c d e : Rat) (w : World) : (C_ss la lb lc ld le a b c d e w).Ok := by
  have q := fun r k => clQ_ok (okT := okS) (B := w.heap.size) qrsT.1 r k
  have p := fun r k => clR_ok (okT := okS) (B := w.heap.size) qrsT.2 r k
  exact mkC_ok (oks_cons (clVs_ok _) <| oks_cons (clVs_ok _) <| oks_cons (clVs_ok _) <| oks_cons (clVs_ok _) <| oks_cons (clVs_ok _) <| oks_cons (q _ _) <| oks_cons (q _ _) <| oks_cons (p _ _) <| oks_cons (p _ _) <| oks_cons (q _ _) <| oks_cons (q _ _) <| oks_cons (p _ _) <| oks_cons (p _ _) <| oks_cons (q _ _) <| oks_cons (p _ _) <| oks_cons (q _ _) <| oks_cons (p _ _) <| oks_cons (q _ _) <| oks_cons (q _ _) <| oks_cons (p _ _) <| oks_cons (p _ _) <| oks_cons (q _ _) <| oks_cons (q _ _) <| oks_cons (p _ _) <| oks_cons (p _ _) <| oks_cons (q _ _) <| oks_cons (q _ _) <| oks_cons (p _ _) <| oks_cons (p _ _) <| oks_cons (q _ _) <| oks_cons (q _ _) <| oks_cons (p _ _) <| oks_cons (p _ _) <| oks_cons (q _ _) <| oks_cons (q _ _) <| oks_cons (q _ _) <| oks_cons (q _ _) <| oks_cons (p _ _) <| oks_cons (p _ _) <| oks_cons (q _ _) <| oks_cons (q _ _) <| oks_cons (p _ _) <| oks_cons (p _ _) <| oks_cons (q _ _) <| oks_cons (q _ _) <| oks_cons (p _ _) <| oks_cons (p _ _) <| oks_cons (q _ _) <| oks_cons (q _ _) <| oks_cons (p _ _) <| oks_cons (p _ _) <| oks_nil) rfl rfl
def t_ss0 (b : Bool) : List Ent := [⟨.call 23, [.slc 9 5 [.cls 0 1, .cls 1 1, .cls 2 1, .cls 3 1, .cls 4 1]], .val (vp (.bool b))⟩, ⟨.call 10, [], .val (vp (.bool true))⟩]
def t_ss1 : List Ent := [⟨.call 45, [.agg [.cls 0 1, .cls 1 1]], .tup [sp 5 6, rsp 7 8]⟩,
  ⟨.call 45, [.agg [.cls 2 1, .cls 3 1]], .tup [sp 9 10, rsp 11 12]⟩,
  ⟨.call 24, [op 4], .tup [qp 13, rq 14]⟩,
  ⟨.call 47, [sp 5 6, sp 9 10], .val (sp 17 18)⟩,
  ⟨.call 48, [rsp 7 8, rsp 11 12], .val (rsp 19 20)⟩,
  ⟨.call 46, [sp 17 18, rsp 19 20], .val (vp (.bool true))⟩,
  ⟨.call 49, [sp 5 6, sp 9 10], .val (sp 21 22)⟩,
  ⟨.call 50, [rsp 7 8, rsp 11 12], .val (rsp 23 24)⟩,
  ⟨.call 46, [sp 21 22, rsp 23 24], .val (vp (.bool true))⟩,
  ⟨.call 51, [sp 5 6, sp 9 10], .val (sp 25 26)⟩,
  ⟨.call 52, [rsp 7 8, rsp 11 12], .val (rsp 27 28)⟩,
  ⟨.call 46, [sp 25 26, rsp 27 28], .val (vp (.bool true))⟩,
  ⟨.call 53, [sp 5 6, sp 9 10], .val (sp 29 30)⟩,
  ⟨.call 54, [rsp 7 8, rsp 11 12], .val (rsp 31 32)⟩,
  ⟨.call 46, [sp 29 30, rsp 31 32], .val (vp (.bool true))⟩,
  ⟨.call 55, [qp 5, qp 6], .val (sp 33 34)⟩,
  ⟨.call 46, [sp 33 34, rsp 7 8], .val (vp (.bool true))⟩,
  ⟨.call 58, [sp 5 6], .val (sp 35 36)⟩,
  ⟨.call 59, [rsp 7 8], .val (rsp 37 38)⟩,
  ⟨.call 46, [sp 35 36, rsp 37 38], .val (vp (.bool true))⟩,
  ⟨.call 60, [sp 5 6], .val (sp 39 40)⟩,
  ⟨.call 61, [rsp 7 8], .val (rsp 41 42)⟩,
  ⟨.call 46, [sp 39 40, rsp 41 42], .val (vp (.bool true))⟩,
  ⟨.call 16, [vp (.int .i64 0)], .val (rq 16)⟩]
def t_ssH (x : Bool) : List Ent := [⟨.call 56, [sp 5 6, qp 13], .val (vp (.bool x))⟩,
  ⟨.call 57, [rsp 7 8, rq 14], .val (vp (.bool x))⟩]
def t_ssMY : List Ent := [⟨.call 62, [sp 5 6, sp 9 10], .tup [sp 43 44, vp (.bool true)]⟩,
  ⟨.call 63, [rsp 7 8, rsp 11 12], .tup [rsp 45 46, vp (.bool true)]⟩,
  ⟨.call 46, [sp 43 44, rsp 45 46], .val (vp (.bool true))⟩]
def t_ssMN : List Ent := [⟨.call 62, [sp 5 6, sp 9 10], .tup [sp 15 15, vp (.bool false)]⟩,
  ⟨.call 63, [rsp 7 8, rsp 11 12], .tup [rsp 16 16, vp (.bool false)]⟩,
  ⟨.call 46, [sp 15 15, rsp 16 16], .val (vp (.bool true))⟩]
def t_ssOZ : List Ent := [⟨.call 57, [rsp 11 12, rq 16], .val (vp (.bool true))⟩,
  ⟨.call 64, [sp 5 6, sp 9 10], .tup [sp 15 15, vp (.int .i64 10)]⟩,
  ⟨.call 19, [qp 15], .val (vp (.int .i64 0))⟩]
def t_ssON : List Ent := [⟨.call 57, [rsp 11 12, rq 16], .val (vp (.bool false))⟩,
  ⟨.call 64, [sp 5 6, sp 9 10], .tup [sp 47 48, vp (.int .i64 0)]⟩,
  ⟨.call 65, [rsp 7 8, rsp 11 12], .val (rsp 49 50)⟩,
  ⟨.call 46, [sp 47 48, rsp 49 50], .val (vp (.bool true))⟩]
section
variable {la lb lc ld le : List UInt8} {a b c d e : Rat} {w : World}
theorem ss0_T (hG : Gr w) {x : Bool} (h : [la, lb, lc, ld, le].any (fun x => decide (120 < x.length)) = x) : ∀ t ∈ t_ss0 x, t.Valid (C_ss la lb lc ld le a b c d e w) :=
  forall_cons (e_long (ls := [la, lb, lc, ld, le]) ⟨_, _, rfl, rfl, ⟨_, _, rfl, rfl, ⟨_, _, rfl, rfl, ⟨_, _, rfl, rfl, ⟨_, _, rfl, rfl, rfl⟩⟩⟩⟩⟩ rfl rfl h) (forall_cons (e_known hG) forall_nil)
theorem ss1_T (hG : Gr w) (h1 : la.length ≤ 120) (h2 : lb.length ≤ 120) (h3 : lc.length ≤ 120) (h4 : ld.length ≤ 120) (h5 : le.length ≤ 120) (ha : (readQ la).1 = a) (hb : (readQ lb).1 = b) (hc : (readQ lc).1 = c) (hd : (readQ ld).1 = d) (he : (readQ le).1 = e) : ∀ t ∈ t_ss1, t.Valid (C_ss la lb lc ld le a b c d e w) := by
  have z1 : Siz a 7 := ha ▸ Siz.read la (L := 120) h1 (by decide) (by decide)
  have z2 : Siz b 7 := hb ▸ Siz.read lb (L := 120) h2 (by decide) (by decide)
  have z3 : Siz c 7 := hc ▸ Siz.read lc (L := 120) h3 (by decide) (by decide)
  have z4 : Siz d 7 := hd ▸ Siz.read ld (L := 120) h4 (by decide) (by decide)
  have z5 : Siz e 7 := he ▸ Siz.read le (L := 120) h5 (by decide) (by decide)
  exact (forall_cons (e_spans hG (by omega) (by omega) rfl rfl ha hb z1 z2 rfl rfl rfl rfl) (forall_cons (e_spans hG (by omega) (by omega) rfl rfl hc hd z3 z4 rfl rfl rfl rfl) (forall_cons (e_both hG (by omega) (pv rfl) he z5 rfl rfl) (forall_cons (e_spplus hG (ps rfl rfl) (ps rfl rfl) rfl rfl rfl rfl) (forall_cons (e_rplussp (prs rfl rfl) (prs rfl rfl) rfl rfl rfl rfl rfl rfl) (forall_cons (e_sameSpan (ps rfl rfl) (prs rfl rfl) rfl (plus_low _ _ _ _) (plus_high _ _ _ _)) (forall_cons (e_spminus hG (ps rfl rfl) (ps rfl rfl) rfl rfl rfl rfl) (forall_cons (e_rminussp (prs rfl rfl) (prs rfl rfl) rfl rfl rfl rfl rfl rfl) (forall_cons (e_sameSpan (ps rfl rfl) (prs rfl rfl) rfl (minus_low _ _ _ _) (minus_high _ _ _ _)) (forall_cons (e_sptimes hG (ps rfl rfl) (ps rfl rfl) rfl rfl rfl rfl) (forall_cons (e_rtimessp (prs rfl rfl) (prs rfl rfl) rfl rfl rfl rfl rfl rfl) (forall_cons (e_sameSpan (ps rfl rfl) (prs rfl rfl) rfl (w_low _ _ _ _ _) (w_high _ _ _ _ _)) (forall_cons (e_hull (ps rfl rfl) (ps rfl rfl) rfl rfl rfl rfl) (forall_cons (e_rhull (prs rfl rfl) (prs rfl rfl) rfl rfl rfl rfl rfl rfl) (forall_cons (e_sameSpan (ps rfl rfl) (prs rfl rfl) rfl (hull_low _ _ _ _) (hull_high _ _ _ _)) (forall_cons (e_between (pq rfl) (pq rfl) rfl rfl rfl rfl) (forall_cons (e_sameSpan (ps rfl rfl) (prs rfl rfl) rfl (low2 _ _) (high2 _ _)) (forall_cons (e_square hG (ps rfl rfl) rfl rfl rfl rfl) (forall_cons (e_rsq (prs rfl rfl) rfl rfl rfl rfl) (forall_cons (e_sameSpan (ps rfl rfl) (prs rfl rfl) rfl rfl rfl) (forall_cons (e_spabs hG (ps rfl rfl) rfl rfl rfl rfl) (forall_cons (e_rabs2 (prs rfl rfl) rfl rfl rfl rfl) (forall_cons (e_sameSpan (ps rfl rfl) (prs rfl rfl) rfl rfl rfl) (forall_cons (e_rint (by decide) (by decide) rfl rfl) forall_nil))))))))))))))))))))))))
theorem ssH_T {x : Bool} (hx : hasQ a b e = x) : ∀ t ∈ t_ssH x, t.Valid (C_ss la lb lc ld le a b c d e w) :=
  (forall_cons (e_has (ps rfl rfl) (pq rfl) rfl hx) (forall_cons (e_rhas (prs rfl rfl) (pr rfl) rfl rfl rfl ((has_R _ _ _).symm.trans hx)) forall_nil))
theorem ssMY_T (hG : Gr w) (hm : cmpQ (highOf (lowOf a [b]) [lowOf c [d]]) (lowOf (highOf a [b]) [highOf c [d]]) ≠ 1) : ∀ t ∈ t_ssMY, t.Valid (C_ss la lb lc ld le a b c d e w) :=
  (forall_cons (e_meet hG (ps rfl rfl) (ps rfl rfl) rfl rfl rfl rfl rfl hm) (forall_cons (e_rmeet (prs rfl rfl) (prs rfl rfl) rfl rfl rfl rfl (by rw [← meet_cmp]; exact hm) rfl rfl) (forall_cons (e_sameSpan (ps rfl rfl) (prs rfl rfl) rfl (by rw [low2, low2, high2]) (by rw [high2, high2, low2])) forall_nil)))
theorem ssMN_T (hG : Gr w) (hm : cmpQ (highOf (lowOf a [b]) [lowOf c [d]]) (lowOf (highOf a [b]) [highOf c [d]]) = 1) : ∀ t ∈ t_ssMN, t.Valid (C_ss la lb lc ld le a b c d e w) :=
  (forall_cons (e_meet0 hG (ps rfl rfl) (ps rfl rfl) rfl rfl rfl hm) (forall_cons (e_rmeet0 (prs rfl rfl) (prs rfl rfl) rfl rfl rfl rfl (by rw [← meet_cmp]; exact hm) rfl rfl) (forall_cons (e_sameSpan (ps rfl rfl) (prs rfl rfl) rfl rfl rfl) forall_nil)))
theorem ssOZ_T (h0 : hasQ c d 0 = true) : ∀ t ∈ t_ssOZ, t.Valid (C_ss la lb lc ld le a b c d e w) :=
  (forall_cons (e_rhas (prs rfl rfl) (pr rfl) rfl rfl rfl ((has_R _ _ _).symm.trans h0)) (forall_cons (e_spover0 (ps rfl rfl) (ps rfl rfl) rfl rfl h0) (forall_cons (e_sign (pq rfl) (by rfl)) forall_nil)))
theorem ssON_T (hG : Gr w) (h0 : hasQ c d 0 = false) : ∀ t ∈ t_ssON, t.Valid (C_ss la lb lc ld le a b c d e w) :=
  (forall_cons (e_rhas (prs rfl rfl) (pr rfl) rfl rfl rfl ((has_R _ _ _).symm.trans h0)) (forall_cons (e_spover hG (ps rfl rfl) (ps rfl rfl) rfl rfl rfl rfl h0) (forall_cons (e_roversp (prs rfl rfl) (prs rfl rfl) rfl rfl rfl rfl (has_end h0).1 (has_end h0).2 rfl rfl) (forall_cons (e_sameSpan (ps rfl rfl) (prs rfl rfl) rfl (by rw [w_low]; simp only [Rat.div_def]) (by rw [w_high]; simp only [Rat.div_def])) forall_nil))))
end
set_option maxRecDepth 100000 in
theorem spans_walk (la lb lc ld le : List UInt8) (w : World) (hG : Gr w) : Calls Tryz.prog 6 #[.agg #[str la, str lb], .agg #[str lc, str ld], str le] w (Go.Proofs.YtccabfblgjcboaaGreatDoor.Val w (.bool true)) := by
  have go : ∀ {a b c d e : Rat} {T : List Ent}, (∀ t ∈ T, t.Valid (C_ss la lb lc ld le a b c d e w)) → runB (C_ss la lb lc ld le a b c d e w).toStat T 300 (bodyOf Tryz.f6) Tryz.f6.results.toList [.agg [.cls 0 1, .cls 1 1], .agg [.cls 2 1, .cls 3 1], op 4] (.val (vp (.bool true))) = true → Calls Tryz.prog 6 #[.agg #[str la, str lb], .agg #[str lc, str ld], str le] w (Go.Proofs.YtccabfblgjcboaaGreatDoor.Val w (.bool true)) := by
    intro a b c d e T hT hrun
    refine (run_mk (ss_C la lb lc ld le a b c d e w) hT 6 Tryz.f6 [.agg [.cls 0 1, .cls 1 1], .agg [.cls 2 1, .cls 3 1], op 4] (.val (vp (.bool true))) 300 Tryz.func6 rfl rfl rfl hrun [.agg #[str la, str lb], .agg #[str lc, str ld], str le] ⟨_, _, rfl, ⟨[str la, str lb], ⟨[str la], _, rfl, ⟨fun _ => str la, rfl, rfl⟩, ⟨[str lb], _, rfl, ⟨fun _ => str lb, rfl, rfl⟩, rfl⟩⟩, rfl⟩, _, _, rfl, ⟨[str lc, str ld], ⟨[str lc], _, rfl, ⟨fun _ => str lc, rfl, rfl⟩, ⟨[str ld], _, rfl, ⟨fun _ => str ld, rfl, rfl⟩, rfl⟩⟩, rfl⟩, _, _, rfl, (op_is rfl).2 rfl, rfl⟩).mono ?_
    rintro e w' ⟨v, rfl, hv, hb⟩
    rw [val_of hv]
    exact ⟨rfl, hb⟩
  cases h : [la, lb, lc, ld, le].any (fun x => decide (120 < x.length)) with
  | true => exact go (a := 0) (b := 0) (c := 0) (d := 0) (e := 0) (ss0_T hG h) (by kernel_rfl)
  | false =>
    have hl : la.length ≤ 120 ∧ lb.length ≤ 120 ∧ lc.length ≤ 120 ∧ ld.length ≤ 120 ∧ le.length ≤ 120 := by
      simp at h
      omega
    obtain ⟨a, ha⟩ : ∃ r, (readQ la).1 = r := ⟨_, rfl⟩
    obtain ⟨b, hb⟩ : ∃ r, (readQ lb).1 = r := ⟨_, rfl⟩
    obtain ⟨c, hc⟩ : ∃ r, (readQ lc).1 = r := ⟨_, rfl⟩
    obtain ⟨d, hd⟩ : ∃ r, (readQ ld).1 = r := ⟨_, rfl⟩
    obtain ⟨e, he⟩ : ∃ r, (readQ le).1 = r := ⟨_, rfl⟩
    have b0 := t_app (ss0_T (a := a) (b := b) (c := c) (d := d) (e := e) hG h) (ss1_T hG hl.1 hl.2.1 hl.2.2.1 hl.2.2.2.1 hl.2.2.2.2 ha hb hc hd he)
    cases hx : hasQ a b e <;> cases h0 : hasQ c d 0 <;> by_cases hm : cmpQ (highOf (lowOf a [b]) [lowOf c [d]]) (lowOf (highOf a [b]) [highOf c [d]]) = 1
    · exact go (t_app b0 (t_app (ssH_T hx) (t_app (ssMN_T hG hm) (ssON_T hG h0)))) (by kernel_rfl)
    · exact go (t_app b0 (t_app (ssH_T hx) (t_app (ssMY_T hG hm) (ssON_T hG h0)))) (by kernel_rfl)
    · exact go (t_app b0 (t_app (ssH_T hx) (t_app (ssMN_T hG hm) (ssOZ_T h0)))) (by kernel_rfl)
    · exact go (t_app b0 (t_app (ssH_T hx) (t_app (ssMY_T hG hm) (ssOZ_T h0)))) (by kernel_rfl)
    · exact go (t_app b0 (t_app (ssH_T hx) (t_app (ssMN_T hG hm) (ssON_T hG h0)))) (by kernel_rfl)
    · exact go (t_app b0 (t_app (ssH_T hx) (t_app (ssMY_T hG hm) (ssON_T hG h0)))) (by kernel_rfl)
    · exact go (t_app b0 (t_app (ssH_T hx) (t_app (ssMN_T hG hm) (ssOZ_T h0)))) (by kernel_rfl)
    · exact go (t_app b0 (t_app (ssH_T hx) (t_app (ssMY_T hG hm) (ssOZ_T h0)))) (by kernel_rfl)
end Sym
end Go.Proofs.YtccabfblgjcboaaGreatDoor

namespace Go.Proofs.YtccabfblgjcboaaGreatDoor
open Go Go.RowKit Go.Proofs Lim
open Go.ChangeShapes Go.WideShapes Go.ChangeAt Go.ChangeMaps
namespace lawExactSpans
set_option maxRecDepth 100000 in
theorem contract (H : Type) (enc : TypeId × Value → H) (W : World) (base : Nat) (args : Array Value) (ds gs : List (DataW H)) (before : List MemPlace)
    (hval : ∀ (j : Nat) t v, Tryz.f6.params[j]? = some t → args[j]? = some v → Value.okWide Tryz.prog W .any base t v)
    (hW : DataW.Whole enc Tryz.prog Tryz.f6.params.toList Rows.exactSpansSpec.vars false W args.toList ds gs before) (hG : Gr W) :
    Calls Tryz.prog 6 args W fun e W' => ∃ v, e = .returned v ∧ Rows.exactSpansSpec.post enc Tryz.prog Tryz.f6 false true false false W args v W' := by
  have hW' := hW
  obtain ⟨p, q, hA0, hV, rfl, hfz, hnd⟩ := hW
  have hA : DataW.TrodAll enc Tryz.prog W 0 (fun _ => true) true Tryz.f6.params.toList args.toList ds p := hA0
  rw [Tryz.params6] at hA hval
  obtain ⟨v0, vs0, d0, ds0, p0, q0, hargs0, rfl, rfl, h0, r0⟩ := trodAll_cons hA
  obtain ⟨v1, vs1, d1, ds1, p1, q1, hargs1, rfl, rfl, h1, r1⟩ := trodAll_cons r0
  obtain ⟨v2, vs2, d2, ds2, p2, q2, hargs2, rfl, rfl, h2, r2⟩ := trodAll_cons r1
  obtain ⟨rfl, rfl, rfl⟩ := trodAll_nil r2
  obtain rfl : args = #[v0, v1, v2] := by cases args; simp_all
  obtain ⟨rfl, rfl⟩ := trodVars_none hV
  have hlt0 : ∀ x ∈ p0, x.block < W.heap.size := fun x hx => by simpa using hW'.lt x (by simp [hx])
  have hlt1 : ∀ x ∈ p1, x.block < W.heap.size := fun x hx => by simpa using hW'.lt x (by simp [hx])
  have ends : ∀ {v : Value} {d : DataW H} {p : List MemPlace}, Value.okWide Tryz.prog W .any base 64 v → DataW.Trod enc Tryz.prog W 0 (fun _ => true) true 64 v d p → ∃ sa sb : ByteArray, v = .agg #[.string sa, .string sb] := by
    intro v d p hv hT
    obtain ⟨cs, rfl, hsz⟩ := okWide_struct Tryz.underlying64 hv
    obtain ⟨fuel, hf⟩ := hT
    obtain ⟨sa, sb, e⟩ := open_ends hf
    obtain ⟨cs⟩ := cs
    have e : cs = [.string sa, .string sb] := e
    exact ⟨sa, sb, by rw [e]⟩
  obtain ⟨sa, sb, rfl⟩ := ends (hval 0 64 v0 rfl rfl) h0
  obtain ⟨sc, sd, rfl⟩ := ends (hval 1 64 v1 rfl rfl) h1
  obtain ⟨s2, rfl, rfl, rfl, hs2⟩ := open_string Tryz.underlying9 (hval 2 9 v2 rfl rfl) h2
  clear hA0
  have walk := Sym.spans_walk sa.data.toList sb.data.toList sc.data.toList sd.data.toList s2.data.toList W hG
  refine walk.mono fun e W' ⟨he, hb⟩ => ?_
  subst he
  refine ⟨_, rfl, _, _, _, [], p0 ++ (p1 ++ []), [], hW', ?_, ?_, ?_, hb.frame _, fun h => by cases h⟩
  · exact trodAll_cons_mk (shut_bool Tryz.underlying4 _) trodAll_mk0
  · exact trodAll_cons_mk (Below.trod laidOut (by kernel_rfl) (of_decide_eq_true (by kernel_rfl)) h0 hb hlt0) (trodAll_cons_mk (Below.trod laidOut (by kernel_rfl) (of_decide_eq_true (by kernel_rfl)) h1 hb hlt1) (trodAll_cons_mk (shut_string Tryz.underlying9 hs2) trodAll_mk0))
  · trivial
theorem reads (os : Os) {H : Type} (enc : TypeId × Value → H) : ∃ places, DataW.whole enc Tryz.prog ((World.doorLaid Tryz.prog 400 os).forCall (fun _ _ => 0) ⟨#[], #[.agg #[.string ⟨#[]⟩, .string ⟨#[]⟩], .agg #[.string ⟨#[]⟩, .string ⟨#[]⟩], .string ⟨#[]⟩], []⟩).memory Tryz.f6.params.toList Rows.exactSpansSpec.vars false #[Value.agg #[.string ⟨#[]⟩, .string ⟨#[]⟩], Value.agg #[.string ⟨#[]⟩, .string ⟨#[]⟩], Value.string ⟨#[]⟩].toList 8 = some ([.agg [.lit (.string []), .lit (.string [])], .agg [.lit (.string []), .lit (.string [])], .lit (.string [])], [], places) :=
  ⟨[], by kernel_rfl⟩
set_option maxRecDepth 100000 in
theorem lifted (os : Os) (started : os.Started) (H : Type) (enc : TypeId × Value → H) (F : Stop.Interp) :
    ReturnsInHanded {} Tryz.checked os 6 .any ((OpenSpec.ofChange Rows.exactSpansSpec).preRow enc Tryz.prog Tryz.f6 Rows.exactSpansRow.domain false Rows.exactSpansRow.laid) (((OpenSpec.ofChange Rows.exactSpansSpec).at F).post enc Tryz.prog Tryz.f6 false true false false) := by
  obtain ⟨places, hx⟩ := reads os enc
  refine returnsInHanded_of_row (C := Tryz.checked) (s := OpenSpec.ofChange Rows.exactSpansSpec) own started (by kernel_rfl) Tryz.func6
    (witness_row_atRef (enc := enc) (C := Tryz.checked) false (World.doorLaid Tryz.prog 400 os) #[Value.agg #[.string ⟨#[]⟩, .string ⟨#[]⟩], Value.agg #[.string ⟨#[]⟩, .string ⟨#[]⟩], Value.string ⟨#[]⟩] rfl (by kernel_rfl) (by kernel_rfl) (by kernel_rfl)
      (OpenSpec.preRow_of_cond 8 hx (by kernel_rfl) (fun k hk => by cases hk) (by kernel_rfl) (door_met os _))) ?_
  intro W base args ds gs before hval hW _ _ _ hL hS _
  exact contract H enc W base args ds gs before hval hW (gr_of_laid hL hS)
theorem said : Rows.ExactSpansSaid :=
  OpenClaim.holds_of_cond 6 Tryz.f6 rfl rfl rfl rfl rfl rfl rfl ⟨rfl, rfl, rfl, rfl, rfl⟩ rfl rfl rfl rfl rfl (by kernel_rfl) Tryz.func6 (by kernel_rfl)
    (of_decide_eq_true (by kernel_rfl)) (by unfold Func.isWrapper; first | (rw [if_pos (by decide +kernel)]; kernel_rfl) | (rw [if_neg (by decide +kernel)]; exact ⟨rfl, rfl⟩))
    (fun os started H enc _ F => by rw [OpenClaim.pre_eq_preRow]; exact lifted os started H enc F)
theorem plain (f : FuncId) (fn : Func) (hf : Tryz.pinned.checked.prog.funcNamed "voussoir/voussoirlaw01.ExactSpans" = some f) (hfn : Tryz.pinned.checked.prog.funcs[f]? = some fn) :
    true = Tryz.pinned.checked.prog.looks [] ∧ ∀ (j : Nat) t, fn.params[j]? = some t → Tryz.pinned.checked.prog.wantsStandIn t = false := by
  obtain rfl : f = 6 := Option.some.inj ((show Tryz.prog.funcNamed "voussoir/voussoirlaw01.ExactSpans" = some 6 by kernel_rfl).symm.trans hf) |>.symm
  obtain rfl : fn = Tryz.f6 := (Option.some.inj (Tryz.func6.symm.trans hfn)).symm
  refine ⟨by kernel_rfl, fun j t ht => ?_⟩
  rw [Tryz.params6] at ht
  have hm : t ∈ [64, 64, 9] := by simpa using Array.mem_of_getElem? ht
  have hall : ([64, 64, 9].all fun u => !Tryz.prog.wantsStandIn u) = true := by kernel_rfl
  exact (show Tryz.prog.wantsStandIn t = false by simpa using List.all_eq_true.1 hall t hm)
theorem card : Rows.ExactSpansCardSaid :=
  Claim7.holds_tied_plain_at .later [] _ _ _ _ said (fun _ h => by cases h) (by kernel_rfl) (fun _ h => by cases h) exactSpans_row_tie rfl ⟨rfl, rfl⟩ (by kernel_rfl) rfl plain (by kernel_rfl)
end lawExactSpans
end Go.Proofs.YtccabfblgjcboaaGreatDoor
