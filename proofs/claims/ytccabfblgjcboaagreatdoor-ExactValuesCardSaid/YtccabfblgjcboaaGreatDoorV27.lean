/- Package exact: SpRuns RefLawSp FormX SpEq FormR QuadE. -/
import Derived.Test.YtccabfblgjcboaaGreatDoorV25
import Derived.Test.YtccabfblgjcboaaGreatDoorV26
import Derived.Test.YtccabfblgjcboaaGreatDoorV23
set_option linter.all false

namespace Go.Proofs.YtccabfblgjcboaaGreatDoor
open Go Go.RowKit Go.Proofs Lim
namespace Sym
def zs : jw := .agg [.lit (.bool false), .lit (.int .u64 0), .lit (.int .u64 0), .lit (.pointer none), .lit (.bool false), .lit (.int .u64 0), .lit (.int .u64 0), .lit (.pointer none)]
section
variable {csz : List Nat} {numc : List Bool} {okT : List Nat} {nt : Nat} {cl : List Cl} {w0 : World} {p1 p2 p3 p4 : jw} {c1 c2 c3 c4 c5 c6 : Nat} {r s a b c d g lo hi : Rat} {k k1 k2 k3 k4 k5 k6 : Nat}
end
end Sym
open Go Go.RowKit Go.Proofs Lim
namespace Sym
theorem qrsT : (∀ t ∈ [26, 33, 66, 68], t ≠ 23) ∧ (∀ t ∈ [26, 33, 66, 68], t ≠ 3) := by decide
abbrev okS : List Nat := [26, 33, 66, 68]
section
variable {csz : List Nat} {numc : List Bool} {okT : List Nat} {nt : Nat} {cl : List Cl} {w0 : World} {p1 p2 : jw} {c1 c2 c3 c4 : Nat} {la lb : List UInt8} {a b c d : Rat} {k1 k2 k3 k4 : Nat}
end
end Sym
open Go Go.RowKit Go.Proofs Lim
namespace Sym
def clB (f : Nat) (r : Rat) (k : Nat) : Cl := ⟨[], 1, true, fun w g => ∃ v, g 0 = .func (.func f) #[v] #[] ∧ cR w v r ∧ cF r k⟩
theorem clB_ok {okT : List Nat} {B : Nat} (ht : ∀ t ∈ okT, t ≠ 23) (f : Nat) (r : Rat) (k : Nat) : (clB f r k).Ok okT B := by
 refine ⟨?_, ?_, ?_, ?_⟩
 · rintro w w' g hb ⟨v, h1, h2, h3⟩
   exact ⟨v, h1, h2.below hb (Nat.le_refl _), h3⟩
 · rintro w w' R g cs t _ _ ho hm hz _ hb ⟨v, h1, h2, h3⟩
   exact ⟨v, h1, h2.other' ho (ht t hm) hz hb, h3⟩
 · rintro w g _ ⟨v, h1, _⟩
   rw [h1]; rfl
 · rintro w g j ⟨v, h1, _⟩ hj
   have hj : j < 1 := hj
   obtain rfl : j = 0 := by omega
   rw [h1]; rfl
def zS8 : List Grp := [.lit (.bool false), .lit (.int .u64 0), .lit (.int .u64 0), .lit (.pointer none), .lit (.bool false), .lit (.int .u64 0), .lit (.int .u64 0), .lit (.pointer none)]
section
variable {csz : List Nat} {numc : List Bool} {okT : List Nat} {nt : Nat} {cl : List Cl} {w0 : World} {w : World} {v : Value} {p1 p2 : jw} {c d c5 c6 f : Nat} {r r1 r2 : Rat} {k k1 k2 k5 k6 : Nat}
theorem op_isB (h : cl[c]? = some (clB f r k)) : (op c).is (mkC csz numc okT nt cl w0) w v ↔ ∃ u, v = .func (.func f) #[u] #[] ∧ cR w u r ∧ cF r k :=
 op_isC h rfl (fun w f g e hp => by obtain ⟨v, h1, h2⟩ := hp; exact ⟨v, e ▸ h1, h2⟩)
theorem e_bound (h1 : PQ csz numc okT nt cl w0 p1 r k) (h2 : cl[c]? = some (clB f r k)) : V csz numc okT nt cl w0 (.mf f) [p1] (.val (op c)) := by
 intro w ρ oo xs ho hb hvs
 obtain ⟨fs, hop, rfl⟩ := hd_mf ho
 obtain ⟨v1, _, e1, h4, e2⟩ := hvs
 subst e2
 obtain ⟨q, z⟩ := h1 _ _ h4
 have he : fs.map ρ = #[v1] := by
  apply Array.ext'
  simpa using e1
 refine ⟨.func (.func f) #[v1] #[], w, ?_, (op_isB h2).2 ⟨v1, rfl, q, z⟩, Below.refl _ _⟩
 show (execOp ρ oo).run Tryz.prog w = _
 simp [execOp, hop, he, Instr.makeFunc]
theorem e_under0 (hG : Gr w0) (h1 : PS csz numc okT nt cl w0 p1 r1 k1 r2 k2) (h2 : cl[c]? = some (clB 29 r k)) (h5 : cl[c5]? = some (cQ (cJ (r * r1) [r * r2]) k5)) (h6 : cl[c6]? = some (cQ (cC (r * r1) [r * r2]) k6)) (hk1 : k + k1 ≤ k5 ∧ k + k2 ≤ k5) (hk2 : k + k1 ≤ k6 ∧ k + k2 ≤ k6) (h7 : k5 ≤ 1000000) (h8 : k6 ≤ 1000000) :
 V csz numc okT nt cl w0 (.call 109) [p1, op c, vp (.slice none 0 0)] (.val (sp c5 c6)) := by
 refine ⟨enters_of Tryz.func109 (by kernel_rfl) rfl, fun w vs hb hvs => ?_⟩
 obtain ⟨v1, _, rfl, h9, v2, _, rfl, h10, v3, _, rfl, h11, rfl⟩ := hvs
 obtain rfl := vp_is.1 h11
 obtain ⟨u, rfl, q, z⟩ := (op_isB h2).1 h10
 obtain ⟨⟨s1, a1, b1, p1, s2, a2, b2, p2, rfl, i1, i2⟩, z1, z2⟩ := h1 _ _ h9
 have hG' := hG.below hb hG.size
 have hm1 := z.mul z1
 have hm2 := z.mul z2
 have key : ∀ {x : Value} {t : Rat} {j : Nat}, cR w x t → cF t j → k + j ≤ 1000000 → FnAt w 29 #[u] #[] x (r * t) := by
  intro x t j hx hz hj W hW
  exact times_q u x r t (k + j) W (q.below hW (Nat.le_refl _)) (hx.below hW (Nat.le_refl _)) (z.le (by omega)) (hz.le (by omega)) (by omega) (hG'.below hW hG'.size)
 refine (under_none 29 #[u] #[] (enters_of Tryz.func29 (by kernel_rfl) rfl) s1 s2 a1 b1 a2 b2 p1 p2 (r * r1) (r * r2) 0 (k5 + k6) w (key i1 z1 (by omega)) (key i2 z2 (by omega)) (hm1.le (by omega)) (hm2.le (by omega)) (by omega)).mono ?_
 rintro e w' ⟨v, rfl, hv, hb'⟩
 exact ⟨v, rfl, (sp_is h5 h6).2 ⟨hv, siz_l1 (hm1.le (by omega)) (hm2.le (by omega)), siz_h1 (hm1.le (by omega)) (hm2.le (by omega))⟩, hb'⟩
theorem zs_cls {vs : List Value} (hc : cl[c]? = some (cQ 0 k)) (hd : cl[d]? = some (cQ 0 k1)) (hk : 1 ≤ k) (hk1 : 1 ≤ k1) (h : GrpsAre (mkC csz numc okT nt cl w0) w zS8 vs) : GrpsAre (mkC csz numc okT nt cl w0) w [.cls c 4, .cls d 4] vs := by
 obtain ⟨_, _, rfl, rfl, _, _, rfl, rfl, _, _, rfl, rfl, _, _, rfl, rfl, _, _, rfl, rfl, _, _, rfl, rfl, _, _, rfl, rfl, _, _, rfl, rfl, rfl⟩ := h
 have g := fun (cc : Nat) (kk : Nat) (hcc : cl[cc]? = some (cQ 0 kk)) (hkk : 1 ≤ kk) => (qp_is (csz := csz) (numc := numc) (okT := okT) (nt := nt) (w0 := w0) (w := w) hcc).2 ⟨zero_val w, cF.zero _ hkk⟩
 obtain ⟨us, ⟨xs, ys, e1, h1, h2⟩, e2⟩ := g c k hc hk
 obtain ⟨us', ⟨xs', ys', e1', h1', h2'⟩, e2'⟩ := g d k1 hd hk1
 have e3 : us = [.bool false, .int .u64 0, .int .u64 0, .pointer none] := by
  injection e2 with e2
  simpa using congrArg Array.toList e2.symm
 have e3' : us' = [.bool false, .int .u64 0, .int .u64 0, .pointer none] := by
  injection e2' with e2'
  simpa using congrArg Array.toList e2'.symm
 rw [show ys = [] from h2, List.append_nil, e3] at e1
 rw [show ys' = [] from h2', List.append_nil, e3'] at e1'
 subst e1 e1'
 exact ⟨[.bool false, .int .u64 0, .int .u64 0, .pointer none], [.bool false, .int .u64 0, .int .u64 0, .pointer none], rfl, h1, [.bool false, .int .u64 0, .int .u64 0, .pointer none], [], rfl, h1', rfl⟩
end
theorem e_neq {csz : List Nat} {numc : List Bool} {okT : List Nat} {nt : Nat} {cl : List Cl} {w0 : World} {p1 p2 : jw} {x y : Int} {t : Nat} {k : IntKind} {b : Bool} (h1 : PV csz numc okT nt cl w0 p1 (.int k x)) (h2 : PV csz numc okT nt cl w0 p2 (.int k y)) (hb : decide (x ≠ y) = b) : V csz numc okT nt cl w0 (.bin .neq t) [p1, p2] (.val (vp (.bool b))) :=
 e_bin h1 h2 rvl (fun w => by
  subst hb
  have : (Go.binOp .neq t (.int k x) (.int k y)).run Tryz.prog w = .ok (.bool (!decide (x = y))) w := by cases k <;> rfl
  rw [this]
  simp)
def fLow (cs : List Rat) (bs : List (Rat × Rat)) : Nat → Rat
 | 0 => 0
 | i + 1 => fLow cs bs i + cJ (cs.getD i 0 * (bs.getD i (0, 0)).1) [cs.getD i 0 * (bs.getD i (0, 0)).2]
def fHigh (cs : List Rat) (bs : List (Rat × Rat)) : Nat → Rat
 | 0 => 0
 | i + 1 => fHigh cs bs i + cC (cs.getD i 0 * (bs.getD i (0, 0)).1) [cs.getD i 0 * (bs.getD i (0, 0)).2]
def elQ (k : Nat) (r : Rat) : List Cl := [cQ r k]
def elS (k : Nat) (p : Rat × Rat) : List Cl := [cQ p.1 k, cQ p.2 k]
theorem form_siz {cs : List Rat} {bs : List (Rat × Rat)} {k : Nat} (hk : 1 ≤ k) (hc : ∀ r ∈ cs, cF r k) (hb : ∀ p ∈ bs, cF p.1 k ∧ cF p.2 k) : ∀ i, cF (fLow cs bs i) (i * (2 * k + 1) + 1) ∧ cF (fHigh cs bs i) (i * (2 * k + 1) + 1)
 | 0 => ⟨cF.zero _ (by omega), cF.zero _ (by omega)⟩
 | i + 1 => by
  obtain ⟨h1, h2⟩ := form_siz hk hc hb i
  have z0 : cF 0 k := cF.zero _ hk
  have zc : cF (cs.getD i 0) k := by
   rcases Nat.lt_or_ge i cs.length with h | h
   · rw [List.getD_eq_getElem?_getD, List.getElem?_eq_getElem h]; exact hc _ (List.getElem_mem h)
   · rw [List.getD_eq_getElem?_getD, List.getElem?_eq_none h]; exact z0
  have zb : cF (bs.getD i (0, 0)).1 k ∧ cF (bs.getD i (0, 0)).2 k := by
   rcases Nat.lt_or_ge i bs.length with h | h
   · rw [List.getD_eq_getElem?_getD, List.getElem?_eq_getElem h]; exact hb _ (List.getElem_mem h)
   · rw [List.getD_eq_getElem?_getD, List.getElem?_eq_none h]; exact ⟨z0, z0⟩
  have e : (i + 1) * (2 * k + 1) = i * (2 * k + 1) + (2 * k + 1) := by rw [Nat.add_mul, Nat.one_mul]
  have m1 := zc.mul zb.1
  have m2 := zc.mul zb.2
  exact ⟨(h1.add (siz_l1 m1 m2)).le (by omega), (h2.add (siz_h1 m1 m2)).le (by omega)⟩
abbrev cl_fm (vc vb : Value) (cs : List Rat) (bs : List (Rat × Rat)) (k i : Nat) : List Cl := [clW vc, clW vb, clV (ii (i : Int)), clV (ii (cs.length : Int)), clW (cT vc (i * 4)), cQ (cs.getD i 0) k, clW (cT vb (i * 8)), cQ (bs.getD i (0, 0)).1 k, cQ (bs.getD i (0, 0)).2 k, clB 29 (cs.getD i 0) k,
 cQ (cJ (cs.getD i 0 * (bs.getD i (0, 0)).1) [cs.getD i 0 * (bs.getD i (0, 0)).2]) (2 * k), cQ (cC (cs.getD i 0 * (bs.getD i (0, 0)).1) [cs.getD i 0 * (bs.getD i (0, 0)).2]) (2 * k), cQ (fLow cs bs i) (i * (2 * k + 1) + 1), cQ (fHigh cs bs i) (i * (2 * k + 1) + 1), cQ (fLow cs bs (i + 1)) ((i + 1) * (2 * k + 1) + 1), cQ (fHigh cs bs (i + 1)) ((i + 1) * (2 * k + 1) + 1), clV (ii ((i + 1 : Nat) : Int))]
noncomputable abbrev C_fm (vc vb : Value) (cs : List Rat) (bs : List (Rat × Rat)) (k i : Nat) (w : World) : Ctx := mkC [1, 1, 1, 1, 1, 4, 1, 4, 4, 1, 4, 4, 4, 4, 4, 4, 1] [false, false, true, true, false, true, false, true, true, true, true, true, true, true, true, true, true] okS 47 (cl_fm vc vb cs bs k i) w
theorem fm_C {vc vb : Value} (h1 : vc.oneCell' = true) (h2 : vb.oneCell' = true) (cs : List Rat) (bs : List (Rat × Rat)) (k i : Nat) (w : World) : (C_fm vc vb cs bs k i w).Ok := by
 have q := fun r k => clQ_ok (okT := okS) (B := w.heap.size) qrsT.1 r k
 exact mkC_ok (ci (cZ h1) <| ci (cZ h2) <| ci (ju _) <| ci (ju _) <| ci (cZ (ptrAt_one _ _)) <| ci (q _ _) <| ci (cZ (ptrAt_one _ _)) <| ci (q _ _) <| ci (q _ _) <| ci (clB_ok qrsT.1 _ _ _) <| ci (q _ _) <| ci (q _ _) <| ci (q _ _) <| ci (q _ _) <| ci (q _ _) <| ci (q _ _) <| ci (ju _) oks_nil) rfl rfl
def t_fm0 (b1 b2 : Bool) : List Ent := [⟨.blt .len [91] 3, [op 0], .val (op 3)⟩, ⟨.bin .gtr 3, [op 3, vp (ii 200)], .val (vp (.bool b1))⟩, ⟨.blt .len [93] 3, [op 1], .val (op 3)⟩, ⟨.bin .neq 3, [op 3, op 3], .val (vp (.bool b2))⟩]
def t_fm1 (b : Bool) : List Ent := [⟨.bin .lss 3, [op 2, op 3], .val (vp (.bool b))⟩]
def t_fm2 : List Ent := [⟨.bin .lss 3, [op 2, op 3], .val (vp (.bool true))⟩, ⟨.ix 91, [op 0, op 2], .val (op 4)⟩, ⟨.ld 26, [op 4], .val (qp 5)⟩, ⟨.ix 93, [op 1, op 2], .val (op 6)⟩, ⟨.ld 66, [op 6], .val (sp 7 8)⟩, ⟨.mf 29, [qp 5], .val (op 9)⟩, ⟨.call 109, [sp 7 8, op 9, vp (.slice none 0 0)], .val (sp 10 11)⟩, ⟨.call 25, [qp 12, qp 10], .val (qp 14)⟩, ⟨.call 25, [qp 13, qp 11], .val (qp 15)⟩, ⟨.bin .add 3, [op 2, vp (ii 1)], .val (op 16)⟩]
noncomputable def b_fm : Code := bodyOf Tryz.f68
noncomputable def l_fm : Code := inner (inner (seqR (seqL (jc 4 b_fm))))
theorem und_qs : Tryz.prog.underlying 91 = some (.slice (Tryz.prog.elem 91)) := by kernel_rfl
theorem und_sps : Tryz.prog.underlying 93 = some (.slice (Tryz.prog.elem 93)) := by kernel_rfl
theorem siz_qs : (Tryz.prog.info? (Tryz.prog.elem 91)).map (·.size) = some 4 := by kernel_rfl
theorem siz_sps : (Tryz.prog.info? (Tryz.prog.elem 93)).map (·.size) = some 8 := by kernel_rfl
theorem agg_q : (Tryz.prog.underlying 26).map isAggD = some true := by kernel_rfl
theorem agg_sp : (Tryz.prog.underlying 66).map isAggD = some true := by kernel_rfl
theorem siz_q : (Tryz.prog.info? 26).map (·.size) = some 4 := by kernel_rfl
theorem siz_sp : (Tryz.prog.info? 66).map (·.size) = some 8 := by kernel_rfl
theorem fits_mk {n k : Nat} (h : n ≤ k) (h' : k ≤ 1000000) : fits n k = true := by
 simp only [fits, Bool.and_eq_true]
 exact ⟨Nat.ble_eq_true_of_le h, Nat.ble_eq_true_of_le h'⟩
theorem jg {α β : Type} {l : List α} (f : α → β) (d : α) {i : Nat} (h : i < l.length) : (l.map f)[i]? = some (f (l.getD i d)) := by
 rw [List.getElem?_map, List.getElem?_eq_getElem h, List.getD_eq_getElem?_getD, List.getElem?_eq_getElem h]; rfl
def RForm (w : World) (lo hi : Rat) (x : Int) (e : Ending) (w' : World) : Prop := ∃ v, e = .returned (.tuple #[v, .int .i64 x]) ∧ IsS w' v lo hi ∧ Below w.heap.size w w'
set_option maxRecDepth 100000 in
theorem form_ok (vc vb : Value) (cs : List Rat) (bs : List (Rat × Rat)) (k : Nat) (w : World) (hG : Gr w) (h1 : Ls 4 w vc (cs.map (elQ k))) (h2 : Ls 8 w vb (bs.map (elS k))) (hl : bs.length = cs.length) (hn : cs.length ≤ 200) (hk : 1 ≤ k ∧ k ≤ 1000) :
 Calls Tryz.prog 68 #[vc, vb] w (RForm w (fLow cs bs cs.length) (fHigh cs bs cs.length) 0) := by
 have hC := fm_C h1.one h2.one cs bs k
 have L1 : (cs.map (elQ k)).length = cs.length := by simp
 have L2 : (bs.map (elS k)).length = cs.length := by simp [hl]
 have p1 : ∀ i, PZ [1, 1, 1, 1, 1, 4, 1, 4, 4, 1, 4, 4, 4, 4, 4, 4, 1] [false, false, true, true, false, true, false, true, true, true, true, true, true, true, true, true, true] okS 47 (cl_fm vc vb cs bs k i) w (op 0) 4 (cs.map (elQ k)) := fun i => pzW rfl h1
 have p2 : ∀ i, PZ [1, 1, 1, 1, 1, 4, 1, 4, 4, 1, 4, 4, 4, 4, 4, 4, 1] [false, false, true, true, false, true, false, true, true, true, true, true, true, true, true, true, true] okS 47 (cl_fm vc vb cs bs k i) w (op 1) 8 (bs.map (elS k)) := fun i => pzW rfl h2
 have hT0 : ∀ t ∈ t_fm0 false false, t.Valid (C_fm vc vb cs bs k 0 w) := cg (e_lenZ und_qs (p1 0) (by rw [L1]; exact rv rfl)) (cg (e_gtr (pv rfl) pvl (decide_eq_false (by omega))) (cg (e_lenZ und_sps (p2 0) (by rw [L2]; exact rv rfl)) (cg (e_neq (pv rfl) (pv rfl) (decide_eq_false (by simp))) cA)))
 refine calls_at (C := C_fm vc vb cs bs k 0 w) (f := 68) (args := [op 0, op 1]) Tryz.func68 (c := b_fm) rfl rfl (Nat.le_of_ble_eq_true rfl) (vs := [vc, vb]) ⟨_, _, rfl, (cE rfl).2 rfl, _, _, rfl, (cE rfl).2 rfl, rfl⟩ (fun a hA => ?_)
 refine front_is (hC 0 w) hT0 30 4 [.box 4 66 zS8, .val 0 (op 0), .val 1 (op 1), .box 6 66 zS8] (by kernel_rfl) hA (fun a w1 hA => ?_)
 have hA := hA.turn (is' := [.box 4 66 zS8, .val 0 (op 0), .val 1 (op 1), .box 6 66 [.cls 12 4, .cls 13 4]]) (fun h => by
  obtain ⟨k1, vs1, g1, g2, g3, g4, g5, g6, g7, k2, vs2, g8, g9, g10, g11, g12, g13⟩ := h
  exact ⟨k1, vs1, g1, g2, g3, g4, g5, g6, g7, k2, vs2, g8, g9, g10, g11, zs_cls rfl rfl (by omega) (by omega) g12, g13⟩)
 show (Code.seq (.seq (seqL (seqL (jc 4 b_fm))) (.block 0 (.loop l_fm))) (seqR (jc 4 b_fm))).wp Tryz.prog _ _ _
 refine wp_seq (wp_seq ?_)
 refine jf (hC 0 w) hT0 (x := .normal) (n := 30) (post := [.box 4 66 zS8, .val 1 (op 1), .box 6 66 [.cls 12 4, .cls 13 4], .val 20 (op 0), .val 21 (op 3), .val 22 (vp (ii 0))]) (by kernel_rfl) hA (fun a w2 hA => ?_)
 have hA := hA.turn (is' := [.box 4 66 zS8, .val 1 (op 1), .box 6 66 [.cls 12 4, .cls 13 4], .val 20 (op 0), .val 21 (op 3), .val 22 (op 2)]) (fun h => by
  obtain ⟨k1, vs1, g1, g2, g3, g4, g5, g7, k2, vs2, g8, g9, g10, g11, g12, g13, g14, ⟨u, g15, g16⟩, g17⟩ := h
  exact ⟨k1, vs1, g1, g2, g3, g4, g5, g7, k2, vs2, g8, g9, g10, g11, g12, g13, g14, ⟨u, g15, (op_is rfl).2 (vp_is.1 g16)⟩, g17⟩)
 refine rounds_at cs.length (cl_fm vc vb cs bs k) [.box 4 66 zS8, .val 1 (op 1), .box 6 66 [.cls 12 4, .cls 13 4], .val 20 (op 0), .val 21 (op 3), .val 22 (op 2)] [.box 4 66 zS8, .val 1 (op 1), .box 6 66 [.cls 14 4, .cls 15 4], .val 20 (op 0), .val 21 (op 3), .val 22 (op 16)] [.box 4 66 zS8, .box 6 66 [.cls 12 4, .cls 13 4]] [(0, 0), (1, 1), (3, 3), (12, 14), (13, 15), (2, 16)] (T := t_fm2) (T' := t_fm1 false) (n := 40)
  (fun i => hC i w) (fun i hi => ?_) (by kernel_rfl) (fun i _ => cH rfl (cH rfl (cH rfl (cH rfl (cH rfl (cH rfl prs_nil)))))) (fun _ => rfl) rfl (fun _ _ k hk => hk) (cg (e_lss (pv rfl) (pv rfl) (decide_eq_false (by omega))) cA) (by kernel_rfl) hA (fun a w3 hA => ?_)
 · have e1 : (cs.map (elQ k))[i]? = some ([] ++ [cQ (cs.getD i 0) k] ++ []) := jg (elQ k) 0 hi
   have e2 : (bs.map (elS k))[i]? = some ([] ++ [cQ (bs.getD i (0, 0)).1 k, cQ (bs.getD i (0, 0)).2 k] ++ []) := jg (elS k) (0, 0) (by omega)
   have eN : (i + 1) * (2 * k + 1) = i * (2 * k + 1) + (2 * k + 1) := by rw [Nat.add_mul, Nat.one_mul]
   have eB : (i + 1) * (2 * k + 1) ≤ 200 * 2001 := Nat.mul_le_mul (by omega) (by omega)
   exact cg (e_lss (pv rfl) (pv rfl) (decide_eq_true (by omega))) (cg (e_ixZ (n := 4) und_qs siz_qs (pvW rfl) (p1 i) (pv rfl) (by rw [L1]; exact hi) (rvW rfl)) (cg (e_ldZ (n := 4) (i := i) agg_q siz_q [] [] (pvW rfl) (fun w hb => h1.below hb) e1 ⟨_, _, rfl, rfl, rfl, rfl⟩ rfl)
    (cg (e_ixZ (n := 8) und_sps siz_sps (pvW rfl) (p2 i) (pv rfl) (by rw [L2]; exact hi) (rvW rfl)) (cg (e_ldZ (n := 8) (i := i) agg_sp siz_sp [] [] (pvW rfl) (fun w hb => h2.below hb) e2 ⟨_, _, rfl, rfl, rfl, _, _, rfl, rfl, rfl, rfl⟩ rfl)
    (cg (e_bound (pq rfl) rfl) (cg (e_under0 hG (ps rfl rfl) rfl rfl rfl (by omega) (by omega) (by omega) (by omega)) (cg (e_plus hG (pq rfl) (pq rfl) rfl (fits_mk (by omega) (by omega))) (cg (e_plus hG (pq rfl) (pq rfl) rfl (fits_mk (by omega) (by omega))) (cg (e_add (by omega) (pv rfl) pvl (rv rfl) (by omega)) cA)))))))))
 · refine jf (hC _ w) (T := []) cA (x := .ret) (n := 30) (post := [.box 4 66 [.cls 12 4, .cls 13 4], .val 5 (vp (ii 0))]) (by kernel_rfl) hA (fun a w4 hA => at_boxS rfl agg_sp siz_sp hA (fun v u hv hu => ?_))
   rw [vp_is.1 hu]
   exact ⟨v, rfl, ((sp_is rfl rfl).1 hv).1, hA.below⟩
end Sym
open Go Go.RowKit Go.Proofs Lim
namespace Sym
theorem minQ_comm (a b : Rat) : minQ a b = minQ b a := by unfold minQ; grind
theorem maxQ_comm (a b : Rat) : maxQ a b = maxQ b a := by unfold maxQ; grind
theorem minQ_assoc (a b c : Rat) : minQ (minQ a b) c = minQ a (minQ b c) := by unfold minQ; grind
theorem maxQ_assoc (a b c : Rat) : maxQ (maxQ a b) c = maxQ a (maxQ b c) := by unfold maxQ; grind
instance : Std.Commutative minQ := ⟨minQ_comm⟩
instance : Std.Commutative maxQ := ⟨maxQ_comm⟩
instance : Std.Associative minQ := ⟨minQ_assoc⟩
instance : Std.Associative maxQ := ⟨maxQ_assoc⟩
section
variable {csz : List Nat} {numc : List Bool} {okT : List Nat} {nt : Nat} {cl : List Cl} {w0 : World} {p1 p2 : jw} {c1 c2 : Nat} {a b c d : Rat} {k1 k2 k3 k4 : Nat}
end
end Sym
open Go Go.RowKit Go.Proofs Lim
namespace Sym
section
variable {csz : List Nat} {numc : List Bool} {okT : List Nat} {nt : Nat} {cl : List Cl} {w0 : World} {p1 p2 : jw} {c1 c2 k1 k2 k3 k4 k5 k6 : Nat} {a b c d lo hi : Rat}
end
def elR (k : Nat) (r : Rat) : List Cl := [clR r k]
def elT (k : Nat) (p : Rat × Rat) : List Cl := [clR (minQ p.1 p.2) k, clR (maxQ p.1 p.2) k]
end Sym
open Go Go.RowKit Go.Proofs Lim
namespace Sym
abbrev qLow (a b c lo hi : Rat) : Rat := cJ (cw a b c lo) (cK a b c lo hi)
abbrev qHigh (a b c lo hi : Rat) : Rat := cC (cw a b c lo) (cK a b c lo hi)
theorem quad_ends_siz {a b c lo hi : Rat} {k : Nat} (za : cF a k) (zb : cF b k) (zc : cF c k) (zl : cF lo k) (zh : cF hi k) : cF (qLow a b c lo hi) (15 * k + 7) ∧ cF (qHigh a b c lo hi) (15 * k + 7) := by
 have e1 : cF (cw a b c lo) (15 * k + 7) := (quad_siz za zb zc zl).le (by omega)
 have e2 : cF (cw a b c hi) (15 * k + 7) := (quad_siz za zb zc zh).le (by omega)
 have key : ∀ x ∈ cK a b c lo hi, cF x (15 * k + 7) := by
  intro x hx
  unfold cK at hx
  split at hx
  · simp at hx; subst hx; exact e2
  · rename_i h0
    have e3 : cF (cw a b c (cV a b)) (15 * k + 7) := (quad_siz (k := 3 * k + 1) (za.le (by omega)) (zb.le (by omega)) (zc.le (by omega)) (turn_siz za zb (double_ne h0))).le (by omega)
    unfold cB at hx
    split at hx
    · simp at hx; rcases hx with rfl | rfl
      · exact e2
      · exact e3
    · simp at hx; subst hx; exact e2
 exact ⟨lowOf_siz e1 key, highOf_siz e1 key⟩
section
variable {csz : List Nat} {numc : List Bool} {okT : List Nat} {nt : Nat} {cl : List Cl} {w0 : World} {p1 p2 p3 p4 : jw} {c1 c2 k1 k2 k3 k4 k5 k K : Nat} {a b c d e : Rat}
theorem e_quad (hG : Gr w0) (h1 : PQ csz numc okT nt cl w0 p1 a k1) (h2 : PQ csz numc okT nt cl w0 p2 b k2) (h3 : PQ csz numc okT nt cl w0 p3 c k3) (h4 : PS csz numc okT nt cl w0 p4 d k4 e k5) (hk : k1 ≤ k ∧ k2 ≤ k ∧ k3 ≤ k ∧ k4 ≤ k ∧ k5 ≤ k) (hk' : k ≤ 100000) (hK : 15 * k + 7 ≤ K) (g1 : cl[c1]? = some (cQ (qLow a b c d e) K)) (g2 : cl[c2]? = some (cQ (qHigh a b c d e) K)) :
 V csz numc okT nt cl w0 (.call 70) [p1, p2, p3, p4] (.val (sp c1 c2)) := by
 refine ⟨enters_of Tryz.func70 (by kernel_rfl) rfl, fun w vs hb hvs => ?_⟩
 obtain ⟨u1, _, rfl, j1, ⟨u2, _, rfl, j2, ⟨u3, _, rfl, j3, ⟨u4, _, rfl, j4, rfl⟩⟩⟩⟩ := hvs
 have i1 := h1 _ _ j1
 have i2 := h2 _ _ j2
 have i3 := h3 _ _ j3
 have i4 := h4 _ _ j4
 have za := i1.2.le hk.1
 have zb := i2.2.le hk.2.1
 have zc := i3.2.le hk.2.2.1
 have zd := i4.2.1.le hk.2.2.2.1
 have ze := i4.2.2.le hk.2.2.2.2
 refine (quadratic_any u1 u2 u3 u4 a b c d e k w i1.1 i2.1 i3.1 i4.1 za zb zc zd ze (by omega) (hG.below hb hG.size)).mono ?_
 rintro en w' ⟨v, rfl, hv, hb'⟩
 have := quad_ends_siz za zb zc zd ze
 exact ⟨v, rfl, (sp_is g1 g2).2 ⟨hv, this.1.le hK, this.2.le hK⟩, hb'⟩
theorem e_form {cs : List Rat} {bs : List (Rat × Rat)} (hG : Gr w0) (h1 : PZ csz numc okT nt cl w0 p1 4 (cs.map (elQ k))) (h2 : PZ csz numc okT nt cl w0 p2 8 (bs.map (elS k))) (hl : bs.length = cs.length) (hn : cs.length ≤ 200) (hk : 1 ≤ k ∧ k ≤ 1000) (z1 : cF (fLow cs bs cs.length) K) (z2 : cF (fHigh cs bs cs.length) K) (g1 : cl[c1]? = some (cQ (fLow cs bs cs.length) K)) (g2 : cl[c2]? = some (cQ (fHigh cs bs cs.length) K)) :
 V csz numc okT nt cl w0 (.call 68) [p1, p2] (.tup [sp c1 c2, vp (.int .i64 0)]) := by
 refine ⟨enters_of Tryz.func68 (by kernel_rfl) rfl, fun w vs hb hvs => ?_⟩
 obtain ⟨u1, _, rfl, j1, ⟨u2, _, rfl, j2, rfl⟩⟩ := hvs
 refine (form_ok u1 u2 cs bs k w (hG.below hb hG.size) (h1 _ _ hb j1) (h2 _ _ hb j2) hl hn hk).mono ?_
 rintro en w' ⟨v, rfl, hv, hb'⟩
 exact ⟨_, rfl, ⟨_, ⟨_, _, rfl, (sp_is g1 g2).2 ⟨hv, z1, z2⟩, _, _, rfl, vp_is.2 rfl, rfl⟩, rfl⟩, hb'⟩
end
end Sym
end Go.Proofs.YtccabfblgjcboaaGreatDoor
