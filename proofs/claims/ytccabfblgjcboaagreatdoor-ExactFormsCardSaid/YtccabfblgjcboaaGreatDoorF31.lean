/- Package exact: SpRuns RefLawSp FormX SpEq FormR QuadE. -/
import Derived.Test.YtccabfblgjcboaaGreatDoorF29
import Derived.Test.YtccabfblgjcboaaGreatDoorF30
import Derived.Test.YtccabfblgjcboaaGreatDoorF24
set_option linter.all false

namespace Go.Proofs.YtccabfblgjcboaaGreatDoor
open Go Go.RowKit Go.Proofs Lim
namespace Sym
def zs : jQ := .agg [.lit (.bool false), .lit (.int .u64 0), .lit (.int .u64 0), .lit (.pointer none), .lit (.bool false), .lit (.int .u64 0), .lit (.int .u64 0), .lit (.pointer none)]
section
variable {csz : List Nat} {numc : List Bool} {okT : List Nat} {nt : Nat} {cl : List Cl} {w0 : World} {p1 p2 p3 p4 : jQ} {c1 c2 c3 c4 c5 c6 : Nat} {r s a b c d g lo hi : Rat} {k k1 k2 k3 k4 k5 k6 : Nat}
end
end Sym
open Go Go.RowKit Go.Proofs Lim
namespace Sym
theorem low2 (a b : Rat) : jq a [b] = jZ a b := by
 show (if b < a then b else a) = _
 unfold jZ
 by_cases h : a ≤ b
 · rw [if_neg (by grind), if_pos h]
 · rw [if_pos (by grind), if_neg h]
theorem high2 (a b : Rat) : cY a [b] = ka a b := by
 show (if a < b then b else a) = _
 unfold ka
 by_cases h : b ≤ a
 · rw [if_neg (by grind), if_pos h]
 · rw [if_pos (by grind), if_neg h]
theorem qrsT : (∀ t ∈ [26, 33, 66, 68], t ≠ 23) ∧ (∀ t ∈ [26, 33, 66, 68], t ≠ 3) := by decide
abbrev okS : List Nat := [26, 33, 66, 68]
abbrev cl_spans (la lb : List UInt8) (a b : Rat) : List Cl := [jm (je la), jm (je lb), clQ a 7, cN a 7, clQ b 7, cN b 7, cN (jZ a b) 400, cN (ka a b) 400]
theorem spans_ok (la lb : List UInt8) (a b : Rat) (w : World) (hG : Gr w) (h1 : la.length ≤ 100000) (h2 : lb.length ≤ 100000) (ha : (jw la).1 = a) (hb : (jw lb).1 = b) (za : cB a 7) (zb : cB b 7) : Calls Tryz.prog 45 #[.agg #[je la, je lb]] w (fun e w' => ∃ x y, e = .returned (.tuple #[x, y]) ∧ IsS w' x a b ∧ RSp w' y (jZ a b) (ka a b) ∧ cB (jZ a b) 400 ∧ cB (ka a b) 400 ∧ Below w.heap.size w w') := by
 have hC : (mkC [1, 1, 4, 3, 4, 3, 3, 3] [true, true, true, true, true, true, true, true] okS 26 (cl_spans la lb a b) w).Ok := cL (cb (jD _) (cb (jD _) (cb (clQ_ok qrsT.1 _ _) (cb (co qrsT.2 _ _) (cb (clQ_ok qrsT.1 _ _) (cb (co qrsT.2 _ _) (cb (co qrsT.2 _ _) (cb (co qrsT.2 _ _) cD)))))))) rfl rfl
 have hT : ∀ t ∈ ([⟨.call 24, [op 0], .tup [qp 2, rq 3]⟩, ⟨.call 24, [op 1], .tup [qp 4, rq 5]⟩, ⟨.call 101, [rq 3, rq 5], .val (rsp 6 7)⟩] : List cW), t.Valid (mkC [1, 1, 4, 3, 4, 3, 3, 3] [true, true, true, true, true, true, true, true] okS 26 (cl_spans la lb a b) w) :=
  ca (e_both hG h1 (pv rfl) ha za rfl rfl) (ca (e_both hG h2 (pv rfl) hb zb rfl rfl) (ca (e_rbetween (pr rfl) (pr rfl) rfl rfl rfl rfl) ce))
 refine (cM hC hT 45 Tryz.f45 [.agg [.cls 0 1, .cls 1 1]] (.tup [sp 2 4, rsp 6 7]) 60 Tryz.func45 rfl rfl rfl (by kernel_rfl) [.agg #[je la, je lb]] ⟨_, _, rfl, ⟨[je la, je lb], ⟨[je la], _, rfl, ⟨fun _ => je la, rfl, rfl⟩, ⟨[je lb], _, rfl, ⟨fun _ => je lb, rfl, rfl⟩, rfl⟩⟩, rfl⟩, rfl⟩).mono ?_
 rintro e w' ⟨v, rfl, ⟨vs, ⟨v1, _, rfl, g1, v2, _, rfl, g2, rfl⟩, rfl⟩, hb⟩
 obtain ⟨q1, _, _⟩ := (sp_is rfl rfl).1 g1
 obtain ⟨q2, q3, q4⟩ := (ju rfl rfl).1 g2
 exact ⟨v1, v2, rfl, q1, q2, q3, q4, hb⟩
theorem sameSpan_ok (x y : Value) (a b : Rat) (k : Nat) (w : World) (hx : IsS w x a b) (hy : RSp w y a b) (za : cB a k) (zb : cB b k) (hk : k ≤ 400000) : Calls Tryz.prog 46 #[x, y] w (Go.Proofs.YtccabfblgjcboaaGreatDoor.Val w (.bool true)) := by
 have hC : (mkC [4, 4, 3, 3] [true, true, true, true] okS 17 [clQ a k, clQ b k, cN a k, cN b k] w).Ok := cL (cb (clQ_ok qrsT.1 _ _) (cb (clQ_ok qrsT.1 _ _) (cb (co qrsT.2 _ _) (cb (co qrsT.2 _ _) cD)))) rfl rfl
 have hf : fits (k + k) 1000000 = true := by simp only [fits, Bool.and_eq_true]; exact ⟨Nat.ble_eq_true_of_le (by omega), rfl⟩
 have hT : ∀ t ∈ ([⟨.call 13, [qp 0, rq 2], .val (vp (.bool true))⟩, ⟨.call 13, [qp 1, rq 3], .val (vp (.bool true))⟩] : List cW), t.Valid (mkC [4, 4, 3, 3] [true, true, true, true] okS 17 [clQ a k, clQ b k, cN a k, cN b k] w) :=
  ca (e_same (pq rfl) (pr rfl) hf (decide_eq_true rfl)) (ca (e_same (pq rfl) (pr rfl) hf (decide_eq_true rfl)) ce)
 refine (cM hC hT 46 Tryz.f46 [sp 0 1, rsp 2 3] (.val (vp (.bool true))) 60 Tryz.func46 rfl rfl rfl (by kernel_rfl) [x, y] ⟨_, _, rfl, (sp_is rfl rfl).2 ⟨hx, za, zb⟩, _, _, rfl, (ju rfl rfl).2 ⟨hy, za, zb⟩, rfl⟩).mono ?_
 rintro e w' ⟨v, rfl, hv, hb⟩
 rw [val_of hv]
 exact ⟨rfl, hb⟩
section
variable {csz : List Nat} {numc : List Bool} {okT : List Nat} {nt : Nat} {cl : List Cl} {w0 : World} {p1 p2 : jQ} {c1 c2 c3 c4 : Nat} {la lb : List UInt8} {a b c d : Rat} {k1 k2 k3 k4 : Nat}
theorem e_sameSpan (h1 : PS csz numc okT nt cl w0 p1 a k1 b k2) (h2 : PRS csz numc okT nt cl w0 p2 c k3 d k4) (hk : fits (k1 + k2 + k3 + k4) 400000 = true) (hac : a = c) (hbd : b = d) : V csz numc okT nt cl w0 (.call 46) [p1, p2] (.val (vp (.bool true))) := by
 subst hac hbd
 have hk := fits_le hk
 refine ⟨enters_of Tryz.func46 (by kernel_rfl) rfl, fun w vs hb hvs => ?_⟩
 obtain ⟨v1, _, rfl, h4, v2, _, rfl, h5, rfl⟩ := hvs
 have h4 := h1 _ _ h4
 have h5 := h2 _ _ h5
 refine (sameSpan_ok v1 v2 a b (k1 + k2 + k3 + k4) w h4.1 h5.1 (h4.2.1.le (by omega)) (h4.2.2.le (by omega)) (by omega)).mono ?_
 rintro e w' ⟨rfl, hb'⟩
 exact ⟨_, rfl, vp_r _ _ _, hb'⟩
end
end Sym
open Go Go.RowKit Go.Proofs Lim
namespace Sym
def clB (f : Nat) (r : Rat) (k : Nat) : Cl := ⟨[], 1, true, fun w g => ∃ v, g 0 = .func (.func f) #[v] #[] ∧ js w v r ∧ cB r k⟩
theorem clB_ok {okT : List Nat} {B : Nat} (ht : ∀ t ∈ okT, t ≠ 23) (f : Nat) (r : Rat) (k : Nat) : (clB f r k).Ok okT B := by
 refine ⟨?_, ?_, ?_, ?_⟩
 · rintro w w' g hb ⟨v, h1, h2, h3⟩
   exact ⟨v, h1, h2.below hb (Nat.le_refl _), h3⟩
 · rintro w w' R g cs t _ _ ho hm hz _ hb ⟨v, h1, h2, h3⟩
   exact ⟨v, h1, h2.other' ho (ht t hm) hz hb, h3⟩
 · rintro w g _ ⟨v, h1, _⟩
   rw [h1]; rfl
 · rintro w g j ⟨v, h1, _⟩ hj
   have hj : j < 1 := hj
   obtain rfl : j = 0 := by omega
   rw [h1]; rfl
def zS8 : List Grp := [.lit (.bool false), .lit (.int .u64 0), .lit (.int .u64 0), .lit (.pointer none), .lit (.bool false), .lit (.int .u64 0), .lit (.int .u64 0), .lit (.pointer none)]
section
variable {csz : List Nat} {numc : List Bool} {okT : List Nat} {nt : Nat} {cl : List Cl} {w0 : World} {w : World} {v : Value} {p1 p2 : jQ} {c d c5 c6 f : Nat} {r r1 r2 : Rat} {k k1 k2 k5 k6 : Nat}
theorem op_isB (h : cl[c]? = some (clB f r k)) : (op c).is (mkC csz numc okT nt cl w0) w v ↔ ∃ u, v = .func (.func f) #[u] #[] ∧ js w u r ∧ cB r k :=
 op_isC h rfl (fun w f g e hp => by obtain ⟨v, h1, h2⟩ := hp; exact ⟨v, e ▸ h1, h2⟩)
theorem e_bound (h1 : PQ csz numc okT nt cl w0 p1 r k) (h2 : cl[c]? = some (clB f r k)) : V csz numc okT nt cl w0 (.mf f) [p1] (.val (op c)) := by
 intro w ρ oo xs ho hb hvs
 obtain ⟨fs, hop, rfl⟩ := hd_mf ho
 obtain ⟨v1, _, e1, h4, e2⟩ := hvs
 subst e2
 obtain ⟨q, z⟩ := h1 _ _ h4
 have he : fs.map ρ = #[v1] := by
  apply Array.ext'
  simpa using e1
 refine ⟨.func (.func f) #[v1] #[], w, ?_, (op_isB h2).2 ⟨v1, rfl, q, z⟩, Below.refl _ _⟩
 show (execOp ρ oo).run Tryz.prog w = _
 simp [execOp, hop, he, Instr.makeFunc]
theorem e_under0 (hG : Gr w0) (h1 : PS csz numc okT nt cl w0 p1 r1 k1 r2 k2) (h2 : cl[c]? = some (clB 29 r k)) (h5 : cl[c5]? = some (clQ (jq (r * r1) [r * r2]) k5)) (h6 : cl[c6]? = some (clQ (cY (r * r1) [r * r2]) k6)) (hk1 : k + k1 ≤ k5 ∧ k + k2 ≤ k5) (hk2 : k + k1 ≤ k6 ∧ k + k2 ≤ k6) (h7 : k5 ≤ 1000000) (h8 : k6 ≤ 1000000) :
 V csz numc okT nt cl w0 (.call 109) [p1, op c, vp (.slice none 0 0)] (.val (sp c5 c6)) := by
 refine ⟨enters_of Tryz.func109 (by kernel_rfl) rfl, fun w vs hb hvs => ?_⟩
 obtain ⟨v1, _, rfl, h9, v2, _, rfl, h10, v3, _, rfl, h11, rfl⟩ := hvs
 obtain rfl := kp.1 h11
 obtain ⟨u, rfl, q, z⟩ := (op_isB h2).1 h10
 obtain ⟨⟨s1, a1, b1, p1, s2, a2, b2, p2, rfl, i1, i2⟩, z1, z2⟩ := h1 _ _ h9
 have hG' := hG.below hb hG.size
 have hm1 := z.mul z1
 have hm2 := z.mul z2
 have key : ∀ {x : Value} {t : Rat} {j : Nat}, js w x t → cB t j → k + j ≤ 1000000 → FnAt w 29 #[u] #[] x (r * t) := by
  intro x t j hx hz hj W hW
  exact times_q u x r t (k + j) W (q.below hW (Nat.le_refl _)) (hx.below hW (Nat.le_refl _)) (z.le (by omega)) (hz.le (by omega)) (by omega) (hG'.below hW hG'.size)
 refine (under_none 29 #[u] #[] (enters_of Tryz.func29 (by kernel_rfl) rfl) s1 s2 a1 b1 a2 b2 p1 p2 (r * r1) (r * r2) 0 (k5 + k6) w (key i1 z1 (by omega)) (key i2 z2 (by omega)) (hm1.le (by omega)) (hm2.le (by omega)) (by omega)).mono ?_
 rintro e w' ⟨v, rfl, hv, hb'⟩
 exact ⟨v, rfl, (sp_is h5 h6).2 ⟨hv, siz_l1 (hm1.le (by omega)) (hm2.le (by omega)), siz_h1 (hm1.le (by omega)) (hm2.le (by omega))⟩, hb'⟩
theorem zs_cls {vs : List Value} (hc : cl[c]? = some (clQ 0 k)) (hd : cl[d]? = some (clQ 0 k1)) (hk : 1 ≤ k) (hk1 : 1 ≤ k1) (h : jL (mkC csz numc okT nt cl w0) w zS8 vs) : jL (mkC csz numc okT nt cl w0) w [.cls c 4, .cls d 4] vs := by
 obtain ⟨_, _, rfl, rfl, _, _, rfl, rfl, _, _, rfl, rfl, _, _, rfl, rfl, _, _, rfl, rfl, _, _, rfl, rfl, _, _, rfl, rfl, _, _, rfl, rfl, rfl⟩ := h
 have g := fun (cc : Nat) (kk : Nat) (hcc : cl[cc]? = some (clQ 0 kk)) (hkk : 1 ≤ kk) => (qp_is (csz := csz) (numc := numc) (okT := okT) (nt := nt) (w0 := w0) (w := w) hcc).2 ⟨zero_val w, cB.zero _ hkk⟩
 obtain ⟨us, ⟨xs, ys, e1, h1, h2⟩, e2⟩ := g c k hc hk
 obtain ⟨us', ⟨xs', ys', e1', h1', h2'⟩, e2'⟩ := g d k1 hd hk1
 have e3 : us = [.bool false, .int .u64 0, .int .u64 0, .pointer none] := by
  injection e2 with e2
  simpa using congrArg Array.toList e2.symm
 have e3' : us' = [.bool false, .int .u64 0, .int .u64 0, .pointer none] := by
  injection e2' with e2'
  simpa using congrArg Array.toList e2'.symm
 rw [show ys = [] from h2, List.append_nil, e3] at e1
 rw [show ys' = [] from h2', List.append_nil, e3'] at e1'
 subst e1 e1'
 exact ⟨[.bool false, .int .u64 0, .int .u64 0, .pointer none], [.bool false, .int .u64 0, .int .u64 0, .pointer none], rfl, h1, [.bool false, .int .u64 0, .int .u64 0, .pointer none], [], rfl, h1', rfl⟩
end
theorem e_neq {csz : List Nat} {numc : List Bool} {okT : List Nat} {nt : Nat} {cl : List Cl} {w0 : World} {p1 p2 : jQ} {x y : Int} {t : Nat} {k : IntKind} {b : Bool} (h1 : PV csz numc okT nt cl w0 p1 (.int k x)) (h2 : PV csz numc okT nt cl w0 p2 (.int k y)) (hb : decide (x ≠ y) = b) : V csz numc okT nt cl w0 (.bin .neq t) [p1, p2] (.val (vp (.bool b))) :=
 e_bin h1 h2 rvl (fun w => by
  subst hb
  have : (Go.binOp .neq t (.int k x) (.int k y)).run Tryz.prog w = .ok (.bool (!decide (x = y))) w := by cases k <;> rfl
  rw [this]
  simp)
def fLow (cs : List Rat) (bs : List (Rat × Rat)) : Nat → Rat
 | 0 => 0
 | i + 1 => fLow cs bs i + jq (cs.getD i 0 * (bs.getD i (0, 0)).1) [cs.getD i 0 * (bs.getD i (0, 0)).2]
def fHigh (cs : List Rat) (bs : List (Rat × Rat)) : Nat → Rat
 | 0 => 0
 | i + 1 => fHigh cs bs i + cY (cs.getD i 0 * (bs.getD i (0, 0)).1) [cs.getD i 0 * (bs.getD i (0, 0)).2]
def elQ (k : Nat) (r : Rat) : List Cl := [clQ r k]
def elS (k : Nat) (p : Rat × Rat) : List Cl := [clQ p.1 k, clQ p.2 k]
theorem form_siz {cs : List Rat} {bs : List (Rat × Rat)} {k : Nat} (hk : 1 ≤ k) (hc : ∀ r ∈ cs, cB r k) (hb : ∀ p ∈ bs, cB p.1 k ∧ cB p.2 k) : ∀ i, cB (fLow cs bs i) (i * (2 * k + 1) + 1) ∧ cB (fHigh cs bs i) (i * (2 * k + 1) + 1)
 | 0 => ⟨cB.zero _ (by omega), cB.zero _ (by omega)⟩
 | i + 1 => by
  obtain ⟨h1, h2⟩ := form_siz hk hc hb i
  have z0 : cB 0 k := cB.zero _ hk
  have zc : cB (cs.getD i 0) k := by
   rcases Nat.lt_or_ge i cs.length with h | h
   · rw [List.getD_eq_getElem?_getD, List.getElem?_eq_getElem h]; exact hc _ (List.getElem_mem h)
   · rw [List.getD_eq_getElem?_getD, List.getElem?_eq_none h]; exact z0
  have zb : cB (bs.getD i (0, 0)).1 k ∧ cB (bs.getD i (0, 0)).2 k := by
   rcases Nat.lt_or_ge i bs.length with h | h
   · rw [List.getD_eq_getElem?_getD, List.getElem?_eq_getElem h]; exact hb _ (List.getElem_mem h)
   · rw [List.getD_eq_getElem?_getD, List.getElem?_eq_none h]; exact ⟨z0, z0⟩
  have e : (i + 1) * (2 * k + 1) = i * (2 * k + 1) + (2 * k + 1) := by rw [Nat.add_mul, Nat.one_mul]
  have m1 := zc.mul zb.1
  have m2 := zc.mul zb.2
  exact ⟨(h1.add (siz_l1 m1 m2)).le (by omega), (h2.add (siz_h1 m1 m2)).le (by omega)⟩
abbrev cl_fm (vc vb : Value) (cs : List Rat) (bs : List (Rat × Rat)) (k i : Nat) : List Cl := [clW vc, clW vb, jm (ii (i : Int)), jm (ii (cs.length : Int)), clW (jI vc (i * 4)), clQ (cs.getD i 0) k, clW (jI vb (i * 8)), clQ (bs.getD i (0, 0)).1 k, clQ (bs.getD i (0, 0)).2 k, clB 29 (cs.getD i 0) k,
 clQ (jq (cs.getD i 0 * (bs.getD i (0, 0)).1) [cs.getD i 0 * (bs.getD i (0, 0)).2]) (2 * k), clQ (cY (cs.getD i 0 * (bs.getD i (0, 0)).1) [cs.getD i 0 * (bs.getD i (0, 0)).2]) (2 * k), clQ (fLow cs bs i) (i * (2 * k + 1) + 1), clQ (fHigh cs bs i) (i * (2 * k + 1) + 1), clQ (fLow cs bs (i + 1)) ((i + 1) * (2 * k + 1) + 1), clQ (fHigh cs bs (i + 1)) ((i + 1) * (2 * k + 1) + 1), jm (ii ((i + 1 : Nat) : Int))]
noncomputable abbrev C_fm (vc vb : Value) (cs : List Rat) (bs : List (Rat × Rat)) (k i : Nat) (w : World) : Ctx := mkC [1, 1, 1, 1, 1, 4, 1, 4, 4, 1, 4, 4, 4, 4, 4, 4, 1] [false, false, true, true, false, true, false, true, true, true, true, true, true, true, true, true, true] okS 47 (cl_fm vc vb cs bs k i) w
theorem fm_C {vc vb : Value} (h1 : vc.oneCell' = true) (h2 : vb.oneCell' = true) (cs : List Rat) (bs : List (Rat × Rat)) (k i : Nat) (w : World) : (C_fm vc vb cs bs k i w).Ok := by
 have q := fun r k => clQ_ok (okT := okS) (B := w.heap.size) qrsT.1 r k
 exact cL (cb (jf h1) <| cb (jf h2) <| cb (cu _) <| cb (cu _) <| cb (jf (jy _ _)) <| cb (q _ _) <| cb (jf (jy _ _)) <| cb (q _ _) <| cb (q _ _) <| cb (clB_ok qrsT.1 _ _ _) <| cb (q _ _) <| cb (q _ _) <| cb (q _ _) <| cb (q _ _) <| cb (q _ _) <| cb (q _ _) <| cb (cu _) cD) rfl rfl
def t_fm0 (b1 b2 : Bool) : List cW := [⟨.blt .len [91] 3, [op 0], .val (op 3)⟩, ⟨.bin .gtr 3, [op 3, vp (ii 200)], .val (vp (.bool b1))⟩, ⟨.blt .len [93] 3, [op 1], .val (op 3)⟩, ⟨.bin .neq 3, [op 3, op 3], .val (vp (.bool b2))⟩]
def t_fm1 (b : Bool) : List cW := [⟨.bin .lss 3, [op 2, op 3], .val (vp (.bool b))⟩]
def t_fm2 : List cW := [⟨.bin .lss 3, [op 2, op 3], .val (vp (.bool true))⟩, ⟨.ix 91, [op 0, op 2], .val (op 4)⟩, ⟨.ld 26, [op 4], .val (qp 5)⟩, ⟨.ix 93, [op 1, op 2], .val (op 6)⟩, ⟨.ld 66, [op 6], .val (sp 7 8)⟩, ⟨.mf 29, [qp 5], .val (op 9)⟩, ⟨.call 109, [sp 7 8, op 9, vp (.slice none 0 0)], .val (sp 10 11)⟩, ⟨.call 25, [qp 12, qp 10], .val (qp 14)⟩, ⟨.call 25, [qp 13, qp 11], .val (qp 15)⟩, ⟨.bin .add 3, [op 2, vp (ii 1)], .val (op 16)⟩]
noncomputable def b_fm : Code := bodyOf Tryz.f68
noncomputable def l_fm : Code := cP (cP (cq (cI (jG 4 b_fm))))
theorem und_qs : Tryz.prog.underlying 91 = some (.slice (Tryz.prog.elem 91)) := by kernel_rfl
theorem und_sps : Tryz.prog.underlying 93 = some (.slice (Tryz.prog.elem 93)) := by kernel_rfl
theorem siz_qs : (Tryz.prog.info? (Tryz.prog.elem 91)).map (·.size) = some 4 := by kernel_rfl
theorem siz_sps : (Tryz.prog.info? (Tryz.prog.elem 93)).map (·.size) = some 8 := by kernel_rfl
theorem agg_q : (Tryz.prog.underlying 26).map isAggD = some true := by kernel_rfl
theorem agg_sp : (Tryz.prog.underlying 66).map isAggD = some true := by kernel_rfl
theorem siz_q : (Tryz.prog.info? 26).map (·.size) = some 4 := by kernel_rfl
theorem siz_sp : (Tryz.prog.info? 66).map (·.size) = some 8 := by kernel_rfl
theorem fits_mk {n k : Nat} (h : n ≤ k) (h' : k ≤ 1000000) : fits n k = true := by
 simp only [fits, Bool.and_eq_true]
 exact ⟨Nat.ble_eq_true_of_le h, Nat.ble_eq_true_of_le h'⟩
theorem map_getD {α β : Type} {l : List α} (f : α → β) (d : α) {i : Nat} (h : i < l.length) : (l.map f)[i]? = some (f (l.getD i d)) := by
 rw [List.getElem?_map, List.getElem?_eq_getElem h, List.getD_eq_getElem?_getD, List.getElem?_eq_getElem h]; rfl
def RForm (w : World) (lo hi : Rat) (x : Int) (e : Ending) (w' : World) : Prop := ∃ v, e = .returned (.tuple #[v, .int .i64 x]) ∧ IsS w' v lo hi ∧ Below w.heap.size w w'
set_option maxRecDepth 100000 in
theorem form_ok (vc vb : Value) (cs : List Rat) (bs : List (Rat × Rat)) (k : Nat) (w : World) (hG : Gr w) (h1 : Ls 4 w vc (cs.map (elQ k))) (h2 : Ls 8 w vb (bs.map (elS k))) (hl : bs.length = cs.length) (hn : cs.length ≤ 200) (hk : 1 ≤ k ∧ k ≤ 1000) :
 Calls Tryz.prog 68 #[vc, vb] w (RForm w (fLow cs bs cs.length) (fHigh cs bs cs.length) 0) := by
 have hC := fm_C h1.one h2.one cs bs k
 have L1 : (cs.map (elQ k)).length = cs.length := by simp
 have L2 : (bs.map (elS k)).length = cs.length := by simp [hl]
 have p1 : ∀ i, PZ [1, 1, 1, 1, 1, 4, 1, 4, 4, 1, 4, 4, 4, 4, 4, 4, 1] [false, false, true, true, false, true, false, true, true, true, true, true, true, true, true, true, true] okS 47 (cl_fm vc vb cs bs k i) w (op 0) 4 (cs.map (elQ k)) := fun i => pzW rfl h1
 have p2 : ∀ i, PZ [1, 1, 1, 1, 1, 4, 1, 4, 4, 1, 4, 4, 4, 4, 4, 4, 1] [false, false, true, true, false, true, false, true, true, true, true, true, true, true, true, true, true] okS 47 (cl_fm vc vb cs bs k i) w (op 1) 8 (bs.map (elS k)) := fun i => pzW rfl h2
 have hT0 : ∀ t ∈ t_fm0 false false, t.Valid (C_fm vc vb cs bs k 0 w) := ca (e_lenZ und_qs (p1 0) (by rw [L1]; exact rv rfl)) (ca (kw (pv rfl) jR (decide_eq_false (by omega))) (ca (e_lenZ und_sps (p2 0) (by rw [L2]; exact rv rfl)) (ca (e_neq (pv rfl) (pv rfl) (decide_eq_false (by simp))) ce)))
 refine calls_at (C := C_fm vc vb cs bs k 0 w) (f := 68) (args := [op 0, op 1]) Tryz.func68 (c := b_fm) rfl rfl (Nat.le_of_ble_eq_true rfl) (vs := [vc, vb]) ⟨_, _, rfl, (cS rfl).2 rfl, _, _, rfl, (cS rfl).2 rfl, rfl⟩ (fun a hA => ?_)
 refine front_is (hC 0 w) hT0 30 4 [.box 4 66 zS8, .val 0 (op 0), .val 1 (op 1), .box 6 66 zS8] (by kernel_rfl) hA (fun a w1 hA => ?_)
 have hA := hA.turn (is' := [.box 4 66 zS8, .val 0 (op 0), .val 1 (op 1), .box 6 66 [.cls 12 4, .cls 13 4]]) (fun h => by
  obtain ⟨k1, vs1, g1, g2, g3, g4, g5, g6, g7, k2, vs2, g8, g9, g10, g11, g12, g13⟩ := h
  exact ⟨k1, vs1, g1, g2, g3, g4, g5, g6, g7, k2, vs2, g8, g9, g10, g11, zs_cls rfl rfl (by omega) (by omega) g12, g13⟩)
 show (Code.seq (.seq (cI (cI (jG 4 b_fm))) (.block 0 (.loop l_fm))) (cq (jG 4 b_fm))).wp Tryz.prog _ _ _
 refine wp_seq (wp_seq ?_)
 refine cE (hC 0 w) hT0 (x := .normal) (n := 30) (post := [.box 4 66 zS8, .val 1 (op 1), .box 6 66 [.cls 12 4, .cls 13 4], .val 20 (op 0), .val 21 (op 3), .val 22 (vp (ii 0))]) (by kernel_rfl) hA (fun a w2 hA => ?_)
 have hA := hA.turn (is' := [.box 4 66 zS8, .val 1 (op 1), .box 6 66 [.cls 12 4, .cls 13 4], .val 20 (op 0), .val 21 (op 3), .val 22 (op 2)]) (fun h => by
  obtain ⟨k1, vs1, g1, g2, g3, g4, g5, g7, k2, vs2, g8, g9, g10, g11, g12, g13, g14, ⟨u, g15, g16⟩, g17⟩ := h
  exact ⟨k1, vs1, g1, g2, g3, g4, g5, g7, k2, vs2, g8, g9, g10, g11, g12, g13, g14, ⟨u, g15, (jA rfl).2 (kp.1 g16)⟩, g17⟩)
 refine rounds_at cs.length (cl_fm vc vb cs bs k) [.box 4 66 zS8, .val 1 (op 1), .box 6 66 [.cls 12 4, .cls 13 4], .val 20 (op 0), .val 21 (op 3), .val 22 (op 2)] [.box 4 66 zS8, .val 1 (op 1), .box 6 66 [.cls 14 4, .cls 15 4], .val 20 (op 0), .val 21 (op 3), .val 22 (op 16)] [.box 4 66 zS8, .box 6 66 [.cls 12 4, .cls 13 4]] [(0, 0), (1, 1), (3, 3), (12, 14), (13, 15), (2, 16)] (T := t_fm2) (T' := t_fm1 false) (n := 40)
  (fun i => hC i w) (fun i hi => ?_) (by kernel_rfl) (fun i _ => cH rfl (cH rfl (cH rfl (cH rfl (cH rfl (cH rfl prs_nil)))))) (fun _ => rfl) rfl (fun _ _ k hk => hk) (ca (kj (pv rfl) (pv rfl) (decide_eq_false (by omega))) ce) (by kernel_rfl) hA (fun a w3 hA => ?_)
 · have e1 : (cs.map (elQ k))[i]? = some ([] ++ [clQ (cs.getD i 0) k] ++ []) := map_getD (elQ k) 0 hi
   have e2 : (bs.map (elS k))[i]? = some ([] ++ [clQ (bs.getD i (0, 0)).1 k, clQ (bs.getD i (0, 0)).2 k] ++ []) := map_getD (elS k) (0, 0) (by omega)
   have eN : (i + 1) * (2 * k + 1) = i * (2 * k + 1) + (2 * k + 1) := by rw [Nat.add_mul, Nat.one_mul]
   have eB : (i + 1) * (2 * k + 1) ≤ 200 * 2001 := Nat.mul_le_mul (by omega) (by omega)
   exact ca (kj (pv rfl) (pv rfl) (decide_eq_true (by omega))) (ca (e_ixZ (n := 4) und_qs siz_qs (jj rfl) (p1 i) (pv rfl) (by rw [L1]; exact hi) (kn rfl)) (ca (e_ldZ (n := 4) (i := i) agg_q siz_q [] [] (jj rfl) (fun w hb => h1.below hb) e1 ⟨_, _, rfl, rfl, rfl, rfl⟩ rfl)
    (ca (e_ixZ (n := 8) und_sps siz_sps (jj rfl) (p2 i) (pv rfl) (by rw [L2]; exact hi) (kn rfl)) (ca (e_ldZ (n := 8) (i := i) agg_sp siz_sp [] [] (jj rfl) (fun w hb => h2.below hb) e2 ⟨_, _, rfl, rfl, rfl, _, _, rfl, rfl, rfl, rfl⟩ rfl)
    (ca (e_bound (pq rfl) rfl) (ca (e_under0 hG (ps rfl rfl) rfl rfl rfl (by omega) (by omega) (by omega) (by omega)) (ca (e_plus hG (pq rfl) (pq rfl) rfl (fits_mk (by omega) (by omega))) (ca (e_plus hG (pq rfl) (pq rfl) rfl (fits_mk (by omega) (by omega))) (ca (e_add (by omega) (pv rfl) jR (rv rfl) (by omega)) ce)))))))))
 · refine cE (hC _ w) (T := []) ce (x := .ret) (n := 30) (post := [.box 4 66 [.cls 12 4, .cls 13 4], .val 5 (vp (ii 0))]) (by kernel_rfl) hA (fun a w4 hA => at_boxS rfl agg_sp siz_sp hA (fun v u hv hu => ?_))
   rw [kp.1 hu]
   exact ⟨v, rfl, ((sp_is rfl rfl).1 hv).1, hA.below⟩
end Sym
open Go Go.RowKit Go.Proofs Lim
namespace Sym
theorem minQ_comm (a b : Rat) : jZ a b = jZ b a := by unfold jZ; grind
theorem maxQ_comm (a b : Rat) : ka a b = ka b a := by unfold ka; grind
theorem minQ_assoc (a b c : Rat) : jZ (jZ a b) c = jZ a (jZ b c) := by unfold jZ; grind
theorem maxQ_assoc (a b c : Rat) : ka (ka a b) c = ka a (ka b c) := by unfold ka; grind
instance : Std.Commutative jZ := ⟨minQ_comm⟩
instance : Std.Commutative ka := ⟨maxQ_comm⟩
instance : Std.Associative jZ := ⟨minQ_assoc⟩
instance : Std.Associative ka := ⟨maxQ_assoc⟩
theorem low_R (r : Rat) (rs : List Rat) : jq r rs = lowR r rs := by
 unfold jq lowR
 congr 1
 funext a x
 unfold jZ
 grind
theorem high_R (r : Rat) (rs : List Rat) : cY r rs = jT r rs := by
 unfold cY jT
 congr 1
 funext a x
 unfold ka
 grind
theorem min_max (a b : Rat) : (jZ a b = a ∧ ka a b = b) ∨ (jZ a b = b ∧ ka a b = a) := by
 unfold jZ ka
 grind
theorem has_R (a b x : Rat) : hasQ a b x = hasR (jZ a b) (ka a b) x := by
 unfold hasQ hasR
 rw [low2, high2]
theorem low_two (g : Rat → Rat) (a b : Rat) (t : List Rat) : lowR (g (jZ a b)) (g (ka a b) :: t) = jq (g a) (g b :: t) := by
 rw [low_R]
 rcases min_max a b with ⟨e1, e2⟩ | ⟨e1, e2⟩ <;> rw [e1, e2]
 simp only [lowR, List.foldl_cons]
 rw [minQ_comm]
theorem high_two (g : Rat → Rat) (a b : Rat) (t : List Rat) : jT (g (jZ a b)) (g (ka a b) :: t) = cY (g a) (g b :: t) := by
 rw [high_R]
 rcases min_max a b with ⟨e1, e2⟩ | ⟨e1, e2⟩ <;> rw [e1, e2]
 simp only [jT, List.foldl_cons]
 rw [maxQ_comm]
theorem one1 (x : Rat) : ((((1 : Int) : Rat)) * (x * x)) + ((((0 : Int) : Rat)) * x) + (((0 : Int) : Rat)) = x * x := by
 rw [show ((1 : Int) : Rat) = 1 from rfl, show ((0 : Int) : Rat) = 0 from rfl]
 grind
section
variable {csz : List Nat} {numc : List Bool} {okT : List Nat} {nt : Nat} {cl : List Cl} {w0 : World} {p1 p2 : jQ} {c1 c2 : Nat} {a b c d : Rat} {k1 k2 k3 k4 : Nat}
end
end Sym
open Go Go.RowKit Go.Proofs Lim
namespace Sym
section
variable {csz : List Nat} {numc : List Bool} {okT : List Nat} {nt : Nat} {cl : List Cl} {w0 : World} {p1 p2 : jQ} {c1 c2 k1 k2 k3 k4 k5 k6 : Nat} {a b c d lo hi : Rat}
theorem e_rplusspZ (h1 : PRS csz numc okT nt cl w0 p1 a k1 b k2) (h2 : PRS csz numc okT nt cl w0 p2 c k3 d k4) (hk : k1 ≤ 400 ∧ k2 ≤ 400 ∧ k3 ≤ 400 ∧ k4 ≤ 400) (e1 : a + c = lo) (e2 : b + d = hi) (z1 : cB lo k5) (z2 : cB hi k6) (g1 : cl[c1]? = some (cN lo k5)) (g2 : cl[c2]? = some (cN hi k6)) : V csz numc okT nt cl w0 (.call 48) [p1, p2] (.val (rsp c1 c2)) := by
 subst e1 e2
 refine ⟨enters_of Tryz.func48 (by kernel_rfl) rfl, fun w vs hb hvs => ?_⟩
 obtain ⟨u1, _, rfl, j1, ⟨u2, _, rfl, j2, rfl⟩⟩ := hvs
 have i1 := h1 _ _ j1
 have i2 := h2 _ _ j2
 refine (rplussp_ok u1 u2 _ _ _ _ w i1.1 i2.1 (i1.2.1.le hk.1) (i1.2.2.le hk.2.1) (i2.2.1.le hk.2.2.1) (i2.2.2.le hk.2.2.2)).mono ?_
 rintro e w' ⟨v, rfl, q1, _, _, hb'⟩
 exact ⟨v, rfl, (ju g1 g2).2 ⟨q1, z1, z2⟩, hb'⟩
theorem e_rtimesspZ (h1 : PRS csz numc okT nt cl w0 p1 a k1 b k2) (h2 : PRS csz numc okT nt cl w0 p2 c k3 d k4) (hk : k1 ≤ 400 ∧ k2 ≤ 400 ∧ k3 ≤ 400 ∧ k4 ≤ 400) (e1 : lowR (a * c) [a * d, b * c, b * d] = lo) (e2 : jT (a * c) [a * d, b * c, b * d] = hi) (z1 : cB lo k5) (z2 : cB hi k6) (g1 : cl[c1]? = some (cN lo k5)) (g2 : cl[c2]? = some (cN hi k6)) : V csz numc okT nt cl w0 (.call 52) [p1, p2] (.val (rsp c1 c2)) := by
 subst e1 e2
 refine ⟨enters_of Tryz.func52 (by kernel_rfl) rfl, fun w vs hb hvs => ?_⟩
 obtain ⟨u1, _, rfl, j1, ⟨u2, _, rfl, j2, rfl⟩⟩ := hvs
 have i1 := h1 _ _ j1
 have i2 := h2 _ _ j2
 refine (rtimessp_ok u1 u2 _ _ _ _ w i1.1 i2.1 (i1.2.1.le hk.1) (i1.2.2.le hk.2.1) (i2.2.1.le hk.2.2.1) (i2.2.2.le hk.2.2.2)).mono ?_
 rintro e w' ⟨v, rfl, q1, _, _, hb'⟩
 exact ⟨v, rfl, (ju g1 g2).2 ⟨q1, z1, z2⟩, hb'⟩
end
theorem form_low (c a b : Rat) : lowR (c * jZ a b) [c * ka a b, c * jZ a b, c * ka a b] = jq (c * a) [c * b] := by
 rw [low2]
 simp only [lowR, List.foldl_cons, List.foldl_nil]
 rcases min_max a b with ⟨e1, e2⟩ | ⟨e1, e2⟩ <;> rw [e1, e2] <;> unfold jZ <;> grind
theorem form_high (c a b : Rat) : jT (c * jZ a b) [c * ka a b, c * jZ a b, c * ka a b] = cY (c * a) [c * b] := by
 rw [high2]
 simp only [jT, List.foldl_cons, List.foldl_nil]
 rcases min_max a b with ⟨e1, e2⟩ | ⟨e1, e2⟩ <;> rw [e1, e2] <;> unfold ka <;> grind
theorem clR_st (r : Rat) (k : Nat) : (cN r k).St := by
 have h := co (okT := []) (B := 0) (fun t h => by simp at h) r k
 refine ⟨h.below, fun R w w' f cs t ho ht hz hb hp => ⟨?_, hp.2⟩, fun w f hp => h.num w f rfl hp, h.cell, show 0 < 3 by decide, rfl⟩
 obtain ⟨e0, e1, e2⟩ := RatP.cells hp.1
 exact ⟨f 1, f 2, by rw [e0], Dg.only ho ht.2.1 e1 hb, Dg.only ho ht.2.1 e2 hb⟩
def elR (k : Nat) (r : Rat) : List Cl := [cN r k]
def elT (k : Nat) (p : Rat × Rat) : List Cl := [cN (jZ p.1 p.2) k, cN (ka p.1 p.2) k]
abbrev cl_fr (vc vb : Value) (cs : List Rat) (bs : List (Rat × Rat)) (k i : Nat) : List Cl := [clW vc, clW vb, jm (ii (i : Int)), jm (ii (cs.length : Int)), clW (jI vc (i * 3)), cN (cs.getD i 0) k, clW (jI vb (i * 6)), cN (jZ (bs.getD i (0, 0)).1 (bs.getD i (0, 0)).2) k, cN (ka (bs.getD i (0, 0)).1 (bs.getD i (0, 0)).2) k,
 cN (jq (cs.getD i 0 * (bs.getD i (0, 0)).1) [cs.getD i 0 * (bs.getD i (0, 0)).2]) (2 * k), cN (cY (cs.getD i 0 * (bs.getD i (0, 0)).1) [cs.getD i 0 * (bs.getD i (0, 0)).2]) (2 * k), cN (fLow cs bs i) (i * (2 * k + 1) + 1), cN (fHigh cs bs i) (i * (2 * k + 1) + 1), cN (fLow cs bs (i + 1)) ((i + 1) * (2 * k + 1) + 1), cN (fHigh cs bs (i + 1)) ((i + 1) * (2 * k + 1) + 1), jm (ii ((i + 1 : Nat) : Int))]
noncomputable abbrev C_fr (vc vb : Value) (cs : List Rat) (bs : List (Rat × Rat)) (k i : Nat) (w : World) : Ctx := mkC [1, 1, 1, 1, 1, 3, 1, 3, 3, 3, 3, 3, 3, 3, 3, 1] [false, false, true, true, false, true, false, true, true, true, true, true, true, true, true, true] okS 33 (cl_fr vc vb cs bs k i) w
theorem fr_C {vc vb : Value} (h1 : vc.oneCell' = true) (h2 : vb.oneCell' = true) (cs : List Rat) (bs : List (Rat × Rat)) (k i : Nat) (w : World) : (C_fr vc vb cs bs k i w).Ok := by
 have p := fun r k => co (okT := okS) (B := w.heap.size) qrsT.2 r k
 exact cL (cb (jf h1) <| cb (jf h2) <| cb (cu _) <| cb (cu _) <| cb (jf (jy _ _)) <| cb (p _ _) <| cb (jf (jy _ _)) <| cb (p _ _) <| cb (p _ _) <| cb (p _ _) <| cb (p _ _) <| cb (p _ _) <| cb (p _ _) <| cb (p _ _) <| cb (p _ _) <| cb (cu _) cD) rfl rfl
def t_fr0 : List cW := [⟨.call 16, [vp (ii 0)], .val (rq 11)⟩]
def t_fr1 (b : Bool) : List cW := [⟨.blt .len [92] 3, [op 0], .val (op 3)⟩, ⟨.bin .lss 3, [op 2, op 3], .val (vp (.bool b))⟩]
def t_fr2 : List cW := [⟨.blt .len [92] 3, [op 0], .val (op 3)⟩, ⟨.bin .lss 3, [op 2, op 3], .val (vp (.bool true))⟩, ⟨.ix 92, [op 0, op 2], .val (op 4)⟩, ⟨.ld 33, [op 4], .val (rq 5)⟩, ⟨.ix 94, [op 1, op 2], .val (op 6)⟩, ⟨.ld 68, [op 6], .val (rsp 7 8)⟩, ⟨.call 52, [rsp 5 5, rsp 7 8], .val (rsp 9 10)⟩, ⟨.call 48, [rsp 11 12, rsp 9 10], .val (rsp 13 14)⟩, ⟨.bin .add 3, [op 2, vp (ii 1)], .val (op 15)⟩]
noncomputable def b_fr : Code := bodyOf Tryz.f69
noncomputable def l_fr : Code := cP (cP (cq (cI (jG 2 b_fr))))
def zR6 : List Grp := [.lit (.bool false), .lit (.slice none 0 0), .lit (.slice none 0 0), .lit (.bool false), .lit (.slice none 0 0), .lit (.slice none 0 0)]
theorem und_rs : Tryz.prog.underlying 92 = some (.slice (Tryz.prog.elem 92)) := by kernel_rfl
theorem und_rsps : Tryz.prog.underlying 94 = some (.slice (Tryz.prog.elem 94)) := by kernel_rfl
theorem siz_rs : (Tryz.prog.info? (Tryz.prog.elem 92)).map (·.size) = some 3 := by kernel_rfl
theorem siz_rsps : (Tryz.prog.info? (Tryz.prog.elem 94)).map (·.size) = some 6 := by kernel_rfl
theorem agg_r : (Tryz.prog.underlying 33).map isAggD = some true := by kernel_rfl
theorem agg_rsp : (Tryz.prog.underlying 68).map isAggD = some true := by kernel_rfl
theorem siz_r : (Tryz.prog.info? 33).map (·.size) = some 3 := by kernel_rfl
theorem siz_rsp : (Tryz.prog.info? 68).map (·.size) = some 6 := by kernel_rfl
set_option maxRecDepth 100000 in
theorem formr_ok (vc vb : Value) (cs : List Rat) (bs : List (Rat × Rat)) (k : Nat) (w : World) (h1 : Ls 3 w vc (cs.map (elR k))) (h2 : Ls 6 w vb (bs.map (elT k))) (hl : bs.length = cs.length) (hn : cs.length * (2 * k + 1) + 1 ≤ 400) (hk : 1 ≤ k ∧ k ≤ 100) (zc : ∀ r ∈ cs, cB r k) (zb : ∀ p ∈ bs, cB p.1 k ∧ cB p.2 k) :
 Calls Tryz.prog 69 #[vc, vb] w (fun e w' => ∃ v, e = .returned v ∧ RSp w' v (fLow cs bs cs.length) (fHigh cs bs cs.length) ∧ Below w.heap.size w w') := by
 have hC := fr_C h1.one h2.one cs bs k
 have L1 : (cs.map (elR k)).length = cs.length := by simp
 have L2 : (bs.map (elT k)).length = cs.length := by simp [hl]
 have hle : cs.length ≤ 400 := by
  have : cs.length * 1 ≤ cs.length * (2 * k + 1) := Nat.mul_le_mul_left _ (by omega)
  omega
 have p1 : ∀ i, PZ [1, 1, 1, 1, 1, 3, 1, 3, 3, 3, 3, 3, 3, 3, 3, 1] [false, false, true, true, false, true, false, true, true, true, true, true, true, true, true, true] okS 33 (cl_fr vc vb cs bs k i) w (op 0) 3 (cs.map (elR k)) := fun i => pzW rfl h1
 have p2 : ∀ i, PZ [1, 1, 1, 1, 1, 3, 1, 3, 3, 3, 3, 3, 3, 3, 3, 1] [false, false, true, true, false, true, false, true, true, true, true, true, true, true, true, true] okS 33 (cl_fr vc vb cs bs k i) w (op 1) 6 (bs.map (elT k)) := fun i => pzW rfl h2
 have hT0 : ∀ t ∈ t_fr0, t.Valid (C_fr vc vb cs bs k 0 w) := ca (e_rint (by decide) (by decide) rfl (fitr_mk (by omega) (by omega))) ce
 refine calls_at (C := C_fr vc vb cs bs k 0 w) (f := 69) (args := [op 0, op 1]) Tryz.func69 (c := b_fr) rfl rfl (Nat.le_of_ble_eq_true rfl) (vs := [vc, vb]) ⟨_, _, rfl, (cS rfl).2 rfl, _, _, rfl, (cS rfl).2 rfl, rfl⟩ (fun a hA => ?_)
 refine front_is (hC 0 w) hT0 30 2 [.box 4 68 zR6, .val 0 (op 0), .val 1 (op 1), .box 5 68 [.cls 11 3, .cls 11 3]] (by kernel_rfl) hA (fun a w1 hA => ?_)
 show (Code.seq (.seq (cI (cI (jG 2 b_fr))) (.block 0 (.loop l_fr))) (cq (jG 2 b_fr))).wp Tryz.prog _ _ _
 refine wp_seq (wp_seq ?_)
 refine cE (hC 0 w) (T := []) ce (x := .normal) (n := 30) (post := [.box 4 68 zR6, .val 0 (op 0), .val 1 (op 1), .box 5 68 [.cls 11 3, .cls 11 3], .val 6 (vp (ii 0))]) (by kernel_rfl) hA (fun a w2 hA => ?_)
 have hA := hA.turn (is' := [.box 4 68 zR6, .val 0 (op 0), .val 1 (op 1), .box 5 68 [.cls 11 3, .cls 12 3], .val 6 (op 2)]) (fun h => by
  obtain ⟨k1, vs1, g1, g2, g3, g4, g5, g6, g7, k2, vs2, g8, g9, g10, g11, ⟨xs, ys, e, q1, xs2, ys2, e2, q2, q3⟩, ⟨u, g15, g16⟩, g17⟩ := h
  exact ⟨k1, vs1, g1, g2, g3, g4, g5, g6, g7, k2, vs2, g8, g9, g10, g11, ⟨xs, ys, e, q1, xs2, ys2, e2, q2, q3⟩, ⟨u, g15, (jA rfl).2 (kp.1 g16)⟩, g17⟩)
 refine rounds_at cs.length (cl_fr vc vb cs bs k) [.box 4 68 zR6, .val 0 (op 0), .val 1 (op 1), .box 5 68 [.cls 11 3, .cls 12 3], .val 6 (op 2)] [.box 4 68 zR6, .val 0 (op 0), .val 1 (op 1), .box 5 68 [.cls 13 3, .cls 14 3], .val 6 (op 15)] [.box 4 68 zR6, .box 5 68 [.cls 11 3, .cls 12 3]] [(0, 0), (1, 1), (11, 13), (12, 14), (2, 15)] (T := t_fr2) (T' := t_fr1 false) (n := 40)
  (fun i => hC i w) (fun i hi => ?_) (by kernel_rfl) (fun i _ => cH rfl (cH rfl (cH rfl (cH rfl (cH rfl prs_nil))))) (fun _ => rfl) rfl (fun _ _ k hk => hk) (ca (e_lenZ und_rs (p1 _) (by rw [L1]; exact rv rfl)) (ca (kj (pv rfl) (pv rfl) (decide_eq_false (by omega))) ce)) (by kernel_rfl) hA (fun a w3 hA => ?_)
 · have e1 : (cs.map (elR k))[i]? = some ([] ++ [cN (cs.getD i 0) k] ++ []) := map_getD (elR k) 0 hi
   have e2 : (bs.map (elT k))[i]? = some ([] ++ [cN (jZ (bs.getD i (0, 0)).1 (bs.getD i (0, 0)).2) k, cN (ka (bs.getD i (0, 0)).1 (bs.getD i (0, 0)).2) k] ++ []) := map_getD (elT k) (0, 0) (by omega)
   have eN : (i + 1) * (2 * k + 1) = i * (2 * k + 1) + (2 * k + 1) := by rw [Nat.add_mul, Nat.one_mul]
   have eB : (i + 1) * (2 * k + 1) ≤ cs.length * (2 * k + 1) := Nat.mul_le_mul_right _ hi
   have zf := form_siz hk.1 zc zb
   have zc1 : cB (cs.getD i 0) k := by rw [List.getD_eq_getElem?_getD, List.getElem?_eq_getElem hi]; exact zc _ (List.getElem_mem hi)
   have zb1 : cB (bs.getD i (0, 0)).1 k ∧ cB (bs.getD i (0, 0)).2 k := by
    have : i < bs.length := by omega
    rw [List.getD_eq_getElem?_getD, List.getElem?_eq_getElem this]; exact zb _ (List.getElem_mem this)
   have m1 := (zc1.mul zb1.1).le (show k + k ≤ 2 * k by omega)
   have m2 := (zc1.mul zb1.2).le (show k + k ≤ 2 * k by omega)
   exact ca (e_lenZ und_rs (p1 i) (by rw [L1]; exact rv rfl)) (ca (kj (pv rfl) (pv rfl) (decide_eq_true (by omega))) (ca (e_ixZ (n := 3) und_rs siz_rs (jj rfl) (p1 i) (pv rfl) (by rw [L1]; exact hi) (kn rfl)) (ca (e_ldZ (n := 3) (i := i) agg_r siz_r [] [] (jj rfl) (fun w hb => h1.below hb) e1 ⟨_, _, rfl, rfl, rfl, rfl⟩ rfl)
    (ca (e_ixZ (n := 6) und_rsps siz_rsps (jj rfl) (p2 i) (pv rfl) (by rw [L2]; exact hi) (kn rfl)) (ca (e_ldZ (n := 6) (i := i) agg_rsp siz_rsp [] [] (jj rfl) (fun w hb => h2.below hb) e2 ⟨_, _, rfl, rfl, rfl, _, _, rfl, rfl, rfl, rfl⟩ rfl)
    (ca (e_rtimesspZ (prs rfl rfl) (prs rfl rfl) (by omega) (form_low _ _ _) (form_high _ _ _) (siz_l1 m1 m2) (siz_h1 m1 m2) rfl rfl) (ca (e_rplusspZ (prs rfl rfl) (prs rfl rfl) (by omega) rfl rfl (zf (i + 1)).1 (zf (i + 1)).2 rfl rfl) (ca (e_add (by omega) (pv rfl) jR (rv rfl) (by omega)) ce))))))))
 · refine cE (hC _ w) (T := []) ce (x := .ret) (n := 30) (post := [.box 4 68 [.cls 11 3, .cls 12 3]]) (by kernel_rfl) hA (fun a w4 hA => at_boxR rfl agg_rsp siz_rsp hA (fun v hv => ?_))
   exact ⟨v, rfl, ((ju rfl rfl).1 hv).1, hA.below⟩
abbrev cl_fx (vc vb : Value) (m n : Nat) : List Cl := [clW vc, clW vb, jm (ii (m : Int)), jm (ii (n : Int)), clQ 0 1]
def t_fx (b1 b2 : Bool) : List cW := [⟨.blt .len [91] 3, [op 0], .val (op 2)⟩, ⟨.bin .gtr 3, [op 2, vp (ii 200)], .val (vp (.bool b1))⟩, ⟨.blt .len [93] 3, [op 1], .val (op 3)⟩, ⟨.bin .neq 3, [op 3, op 2], .val (vp (.bool b2))⟩]
theorem form_no (vc vb : Value) (es fs : List (List Cl)) (x : Int) (w : World) (h1 : Ls 4 w vc es) (h2 : Ls 8 w vb fs) (hx : (200 < es.length ∧ x = 5) ∨ (es.length ≤ 200 ∧ fs.length ≠ es.length ∧ x = 2)) :
 Calls Tryz.prog 68 #[vc, vb] w (RForm w 0 0 x) := by
 have hC : (mkC [1, 1, 1, 1, 4] [false, false, true, true, true] okS 47 (cl_fx vc vb es.length fs.length) w).Ok := cL (cb (jf h1.one) <| cb (jf h2.one) <| cb (cu _) <| cb (cu _) <| cb (clQ_ok qrsT.1 _ _) cD) rfl rfl
 have hT : ∀ b1 b2, decide ((es.length : Int) > 200) = b1 → decide ((fs.length : Int) ≠ (es.length : Int)) = b2 → ∀ t ∈ t_fx b1 b2, t.Valid (mkC [1, 1, 1, 1, 4] [false, false, true, true, true] okS 47 (cl_fx vc vb es.length fs.length) w) := fun b1 b2 g1 g2 =>
  ca (e_lenZ und_qs (pzW rfl h1) (rv rfl)) (ca (kw (pv rfl) jR g1) (ca (e_lenZ und_sps (pzW rfl h2) (rv rfl)) (ca (e_neq (pv rfl) (pv rfl) g2) ce)))
 have go : ∀ {T : List cW} (x : Int), (∀ t ∈ T, t.Valid (mkC [1, 1, 1, 1, 4] [false, false, true, true, true] okS 47 (cl_fx vc vb es.length fs.length) w)) → runB ⟨Tryz.prog, [1, 1, 1, 1, 4], [false, false, true, true, true], okS, 47⟩ T 40 (bodyOf Tryz.f68) Tryz.f68.results.toList [op 0, op 1] (.tup [.agg zS8, vp (ii x)]) = true → Calls Tryz.prog 68 #[vc, vb] w (RForm w 0 0 x) := by
  intro T x hT hr
  refine (cM hC hT 68 Tryz.f68 [op 0, op 1] (.tup [.agg zS8, vp (ii x)]) 40 Tryz.func68 rfl rfl rfl hr [vc, vb] ⟨_, _, rfl, (cS rfl).2 rfl, _, _, rfl, (cS rfl).2 rfl, rfl⟩).mono ?_
  rintro e w' ⟨v, rfl, ⟨vs, ⟨v1, _, rfl, g1, v2, _, rfl, g2, rfl⟩, rfl⟩, hb⟩
  obtain rfl := kp.1 g2
  obtain ⟨us, g3, rfl⟩ := g1
  obtain ⟨_, _, rfl, rfl, _, _, rfl, rfl, _, _, rfl, rfl, _, _, rfl, rfl, _, _, rfl, rfl, _, _, rfl, rfl, _, _, rfl, rfl, _, _, rfl, rfl, rfl⟩ := g3
  exact ⟨_, rfl, zspan_is _, hb⟩
 rcases hx with ⟨hx, rfl⟩ | ⟨hx, hy, rfl⟩
 · cases h : decide ((fs.length : Int) ≠ (es.length : Int)) with
   | true => exact go 5 (hT true true (decide_eq_true (by omega)) h) (by kernel_rfl)
   | false => exact go 5 (hT true false (decide_eq_true (by omega)) h) (by kernel_rfl)
 · exact go 2 (hT false true (decide_eq_false (by omega)) (decide_eq_true (by omega))) (by kernel_rfl)
end Sym
open Go Go.RowKit Go.Proofs Lim
namespace Sym
abbrev qLow (a b c lo hi : Rat) : Rat := jq (jg a b c lo) (kb a b c lo hi)
abbrev qHigh (a b c lo hi : Rat) : Rat := cY (jg a b c lo) (kb a b c lo hi)
theorem quad_ends_siz {a b c lo hi : Rat} {k : Nat} (za : cB a k) (zb : cB b k) (zc : cB c k) (zl : cB lo k) (zh : cB hi k) : cB (qLow a b c lo hi) (15 * k + 7) ∧ cB (qHigh a b c lo hi) (15 * k + 7) := by
 have e1 : cB (jg a b c lo) (15 * k + 7) := (quad_siz za zb zc zl).le (by omega)
 have e2 : cB (jg a b c hi) (15 * k + 7) := (quad_siz za zb zc zh).le (by omega)
 have key : ∀ x ∈ kb a b c lo hi, cB x (15 * k + 7) := by
  intro x hx
  unfold kb at hx
  split at hx
  · simp at hx; subst hx; exact e2
  · rename_i h0
    have e3 : cB (jg a b c (turnOf a b)) (15 * k + 7) := (quad_siz (k := 3 * k + 1) (za.le (by omega)) (zb.le (by omega)) (zc.le (by omega)) (turn_siz za zb (double_ne h0))).le (by omega)
    unfold jt at hx
    split at hx
    · simp at hx; rcases hx with rfl | rfl
      · exact e2
      · exact e3
    · simp at hx; subst hx; exact e2
 exact ⟨lowOf_siz e1 key, highOf_siz e1 key⟩
theorem value_at (a b c x : Rat) : a * (x * x) + b * x + c = jg a b c x := by unfold jg; grind
theorem turn_eq (a b : Rat) : -b / (((2 : Int) : Rat) * a) = turnOf a b := by
 unfold turnOf
 rw [Rat.div_def, show ((2 : Int) : Rat) * a = a + a by rw [show ((2 : Int) : Rat) = 2 from rfl]; grind]
theorem two_num {a : Rat} (h : ¬ a = 0) : decide ((((2 : Int) : Rat) * a).num = 0) = false := by
 refine decide_eq_false fun e => h ?_
 have e : ((2 : Int) : Rat) * a = 0 := Rat.num_eq_zero.1 e
 rw [show ((2 : Int) : Rat) = 2 from rfl] at e
 grind
section
variable {csz : List Nat} {numc : List Bool} {okT : List Nat} {nt : Nat} {cl : List Cl} {w0 : World} {p1 p2 p3 p4 : jQ} {c1 c2 k1 k2 k3 k4 k5 k K : Nat} {a b c d e : Rat}
theorem e_quad (hG : Gr w0) (h1 : PQ csz numc okT nt cl w0 p1 a k1) (h2 : PQ csz numc okT nt cl w0 p2 b k2) (h3 : PQ csz numc okT nt cl w0 p3 c k3) (h4 : PS csz numc okT nt cl w0 p4 d k4 e k5) (hk : k1 ≤ k ∧ k2 ≤ k ∧ k3 ≤ k ∧ k4 ≤ k ∧ k5 ≤ k) (hk' : k ≤ 100000) (hK : 15 * k + 7 ≤ K) (g1 : cl[c1]? = some (clQ (qLow a b c d e) K)) (g2 : cl[c2]? = some (clQ (qHigh a b c d e) K)) :
 V csz numc okT nt cl w0 (.call 70) [p1, p2, p3, p4] (.val (sp c1 c2)) := by
 refine ⟨enters_of Tryz.func70 (by kernel_rfl) rfl, fun w vs hb hvs => ?_⟩
 obtain ⟨u1, _, rfl, j1, ⟨u2, _, rfl, j2, ⟨u3, _, rfl, j3, ⟨u4, _, rfl, j4, rfl⟩⟩⟩⟩ := hvs
 have i1 := h1 _ _ j1
 have i2 := h2 _ _ j2
 have i3 := h3 _ _ j3
 have i4 := h4 _ _ j4
 have za := i1.2.le hk.1
 have zb := i2.2.le hk.2.1
 have zc := i3.2.le hk.2.2.1
 have zd := i4.2.1.le hk.2.2.2.1
 have ze := i4.2.2.le hk.2.2.2.2
 refine (quadratic_any u1 u2 u3 u4 a b c d e k w i1.1 i2.1 i3.1 i4.1 za zb zc zd ze (by omega) (hG.below hb hG.size)).mono ?_
 rintro en w' ⟨v, rfl, hv, hb'⟩
 have := quad_ends_siz za zb zc zd ze
 exact ⟨v, rfl, (sp_is g1 g2).2 ⟨hv, this.1.le hK, this.2.le hK⟩, hb'⟩
theorem e_rquad (h1 : PR csz numc okT nt cl w0 p1 a k1) (h2 : PR csz numc okT nt cl w0 p2 b k2) (h3 : PR csz numc okT nt cl w0 p3 c k3) (h4 : PRS csz numc okT nt cl w0 p4 (jZ d e) k4 (ka d e) k5) (hk : k1 ≤ 400 ∧ k2 ≤ 400 ∧ k3 ≤ 400 ∧ k4 ≤ 400 ∧ k5 ≤ 400) (z1 : cB (qLow a b c d e) K) (z2 : cB (qHigh a b c d e) K) (g1 : cl[c1]? = some (cN (qLow a b c d e) K)) (g2 : cl[c2]? = some (cN (qHigh a b c d e) K)) :
 V csz numc okT nt cl w0 (.call 71) [p1, p2, p3, p4] (.val (rsp c1 c2)) := by
 refine ⟨enters_of Tryz.func71 (by kernel_rfl) rfl, fun w vs hb hvs => ?_⟩
 obtain ⟨u1, _, rfl, j1, ⟨u2, _, rfl, j2, ⟨u3, _, rfl, j3, ⟨u4, _, rfl, j4, rfl⟩⟩⟩⟩ := hvs
 have i1 := h1 _ _ j1
 have i2 := h2 _ _ j2
 have i3 := h3 _ _ j3
 have i4 := h4 _ _ j4
 have za := i1.2.le hk.1
 have zb := i2.2.le hk.2.1
 have zc := i3.2.le hk.2.2.1
 have zd := i4.2.1.le hk.2.2.2.1
 have ze := i4.2.2.le hk.2.2.2.2
 have fin : ∀ {lo hi : Rat} {w' : World} {v : Value}, RSp w' v lo hi → lo = qLow a b c d e → hi = qHigh a b c d e → Below w.heap.size w w' → ∃ v', Ending.returned v = .returned v' ∧ (RPat.val (rsp c1 c2)).is (mkC csz numc okT nt cl w0) w' v' ∧ Below w.heap.size w w' := by
  rintro lo hi w' v hv rfl rfl hb'
  exact ⟨v, rfl, (ju g1 g2).2 ⟨hv, z1, z2⟩, hb'⟩
 by_cases h0 : a = 0
 · refine (rquad0_ok u1 u2 u3 u4 a b c _ _ w i1.1 i2.1 i3.1 i4.1 za zb zc zd ze (decide_eq_true h0)).mono ?_
   rintro en w' ⟨v, rfl, q1, _, _, hb'⟩
   have hv : kb a b c d e = [jg a b c e] := by unfold kb; rw [if_pos (by rw [h0]; rfl)]
   refine fin q1 ?_ ?_ hb'
   · simp only [value_at]; rw [low_two (jg a b c), qLow, hv]
   · simp only [value_at]; rw [high_two (jg a b c), qHigh, hv]
 · have hn : ¬ a.num = 0 := fun h => h0 (num_zero.1 h)
   have hv : kb a b c d e = jt (hasQ d e (turnOf a b)) (jg a b c e) (jg a b c (turnOf a b)) := by unfold kb; rw [if_neg hn]
   have hh := has_R d e (turnOf a b)
   cases hx : hasR (jZ d e) (ka d e) (turnOf a b) with
   | true =>
    rw [hx] at hh
    refine (rquadt_ok u1 u2 u3 u4 a b c _ _ w i1.1 i2.1 i3.1 i4.1 za zb zc zd ze (decide_eq_false h0) (two_num h0) (by rw [turn_eq]; exact hx)).mono ?_
    rintro en w' ⟨v, rfl, q1, _, _, hb'⟩
    refine fin q1 ?_ ?_ hb'
    · simp only [turn_eq, value_at]; rw [low_two (jg a b c), qLow, hv, hh]; rfl
    · simp only [turn_eq, value_at]; rw [high_two (jg a b c), qHigh, hv, hh]; rfl
   | false =>
    rw [hx] at hh
    refine (rquadn_ok u1 u2 u3 u4 a b c _ _ w i1.1 i2.1 i3.1 i4.1 za zb zc zd ze (decide_eq_false h0) (two_num h0) (by rw [turn_eq]; exact hx)).mono ?_
    rintro en w' ⟨v, rfl, q1, _, _, hb'⟩
    refine fin q1 ?_ ?_ hb'
    · simp only [value_at]; rw [low_two (jg a b c), qLow, hv, hh]; rfl
    · simp only [value_at]; rw [high_two (jg a b c), qHigh, hv, hh]; rfl
theorem e_form {cs : List Rat} {bs : List (Rat × Rat)} (hG : Gr w0) (h1 : PZ csz numc okT nt cl w0 p1 4 (cs.map (elQ k))) (h2 : PZ csz numc okT nt cl w0 p2 8 (bs.map (elS k))) (hl : bs.length = cs.length) (hn : cs.length ≤ 200) (hk : 1 ≤ k ∧ k ≤ 1000) (z1 : cB (fLow cs bs cs.length) K) (z2 : cB (fHigh cs bs cs.length) K) (g1 : cl[c1]? = some (clQ (fLow cs bs cs.length) K)) (g2 : cl[c2]? = some (clQ (fHigh cs bs cs.length) K)) :
 V csz numc okT nt cl w0 (.call 68) [p1, p2] (.tup [sp c1 c2, vp (.int .i64 0)]) := by
 refine ⟨enters_of Tryz.func68 (by kernel_rfl) rfl, fun w vs hb hvs => ?_⟩
 obtain ⟨u1, _, rfl, j1, ⟨u2, _, rfl, j2, rfl⟩⟩ := hvs
 refine (form_ok u1 u2 cs bs k w (hG.below hb hG.size) (h1 _ _ hb j1) (h2 _ _ hb j2) hl hn hk).mono ?_
 rintro en w' ⟨v, rfl, hv, hb'⟩
 exact ⟨_, rfl, ⟨_, ⟨_, _, rfl, (sp_is g1 g2).2 ⟨hv, z1, z2⟩, _, _, rfl, kp.2 rfl, rfl⟩, rfl⟩, hb'⟩
theorem e_form_no {es fs : List (List Cl)} {x : Int} (h1 : PZ csz numc okT nt cl w0 p1 4 es) (h2 : PZ csz numc okT nt cl w0 p2 8 fs) (hx : (200 < es.length ∧ x = 5) ∨ (es.length ≤ 200 ∧ fs.length ≠ es.length ∧ x = 2)) (hK : 1 ≤ K) (g1 : cl[c1]? = some (clQ 0 K)) :
 V csz numc okT nt cl w0 (.call 68) [p1, p2] (.tup [sp c1 c1, vp (.int .i64 x)]) := by
 refine ⟨enters_of Tryz.func68 (by kernel_rfl) rfl, fun w vs hb hvs => ?_⟩
 obtain ⟨u1, _, rfl, j1, ⟨u2, _, rfl, j2, rfl⟩⟩ := hvs
 refine (form_no u1 u2 es fs x w (h1 _ _ hb j1) (h2 _ _ hb j2) hx).mono ?_
 rintro en w' ⟨v, rfl, hv, hb'⟩
 exact ⟨_, rfl, ⟨_, ⟨_, _, rfl, (sp_is g1 g1).2 ⟨hv, cB.zero _ hK, cB.zero _ hK⟩, _, _, rfl, kp.2 rfl, rfl⟩, rfl⟩, hb'⟩
theorem e_rform {cs : List Rat} {bs : List (Rat × Rat)} (h1 : PZ csz numc okT nt cl w0 p1 3 (cs.map (elR k))) (h2 : PZ csz numc okT nt cl w0 p2 6 (bs.map (elT k))) (hl : bs.length = cs.length) (hn : cs.length * (2 * k + 1) + 1 ≤ 400) (hk : 1 ≤ k ∧ k ≤ 100) (zc : ∀ r ∈ cs, cB r k) (zb : ∀ p ∈ bs, cB p.1 k ∧ cB p.2 k) (z1 : cB (fLow cs bs cs.length) K) (z2 : cB (fHigh cs bs cs.length) K) (g1 : cl[c1]? = some (cN (fLow cs bs cs.length) K)) (g2 : cl[c2]? = some (cN (fHigh cs bs cs.length) K)) :
 V csz numc okT nt cl w0 (.call 69) [p1, p2] (.val (rsp c1 c2)) := by
 refine ⟨enters_of Tryz.func69 (by kernel_rfl) rfl, fun w vs hb hvs => ?_⟩
 obtain ⟨u1, _, rfl, j1, ⟨u2, _, rfl, j2, rfl⟩⟩ := hvs
 refine (formr_ok u1 u2 cs bs k w (h1 _ _ hb j1) (h2 _ _ hb j2) hl hn hk zc zb).mono ?_
 rintro en w' ⟨v, rfl, hv, hb'⟩
 exact ⟨v, rfl, (ju g1 g2).2 ⟨hv, z1, z2⟩, hb'⟩
theorem e_spansZ (hG : Gr w0) {la lb : List UInt8} (hl1 : la.length ≤ 100000) (hl2 : lb.length ≤ 100000) {i j c3 c4 : Nat} (hi : cl[i]? = some (jm (je la))) (hj : cl[j]? = some (jm (je lb))) (ha : (jw la).1 = a) (hb : (jw lb).1 = b) (za : cB a K) (zb : cB b K) (hK : K ≤ 7) (h1 : cl[c1]? = some (clQ a K)) (h2 : cl[c2]? = some (clQ b K)) (h3 : cl[c3]? = some (cN (jZ a b) K)) (h4 : cl[c4]? = some (cN (ka a b) K)) :
 V csz numc okT nt cl w0 (.call 45) [.agg [.cls i 1, .cls j 1]] (.tup [sp c1 c2, rsp c3 c4]) := by
 refine ⟨enters_of Tryz.func45 (by kernel_rfl) rfl, fun w vs hbw hvs => ?_⟩
 obtain ⟨v1, _, rfl, ⟨us, ⟨xs, ys, rfl, ⟨f, hE, rfl⟩, xs', ys', rfl, ⟨f', hE', rfl⟩, hy⟩, rfl⟩, rfl⟩ := hvs
 rw [show ys' = [] from hy]
 simp only [mkC, hi] at hE
 simp only [mkC, hj] at hE'
 have e1 : f 0 = je la := hE
 have e2 : f' 0 = je lb := hE'
 have e3 : (((List.range 1).map f ++ ((List.range 1).map f' ++ [])).toArray : Array Value) = #[je la, je lb] := by simp [List.range_succ, e1, e2]
 rw [e3]
 refine (spans_ok la lb a b w (hG.below hbw hG.size) hl1 hl2 ha hb (za.le hK) (zb.le hK)).mono ?_
 rintro e w' ⟨x, y, rfl, q1, q2, _, _, hb'⟩
 exact ⟨_, rfl, ⟨_, ⟨_, _, rfl, (sp_is h1 h2).2 ⟨q1, za, zb⟩, _, _, rfl, (ju h3 h4).2 ⟨q2, minQ_siz za zb, maxQ_siz za zb⟩, rfl⟩, rfl⟩, hb'⟩
end
end Sym
end Go.Proofs.YtccabfblgjcboaaGreatDoor
