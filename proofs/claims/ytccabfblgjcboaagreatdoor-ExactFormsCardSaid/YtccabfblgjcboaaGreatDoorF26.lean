/- Package exact: RefDiv RefGcd RefMake RefMul RefAdd RefOps RefQ. -/
import Derived.Test.YtccabfblgjcboaaGreatDoorF25
import Derived.Test.YtccabfblgjcboaaGreatDoorF18
set_option linter.all false

namespace Go.Proofs.YtccabfblgjcboaaGreatDoor
open Go Go.RowKit Go.Proofs Lim
namespace Sym
theorem cw (n : Nat) : cG (digs n) = n := by
 induction n using Nat.strongRecOn with
 | _ n ih =>
  by_cases h0 : n = 0
  · subst h0; rw [digs_zero]; rfl
  · rw [digs_pos h0]
    show n % 10000 + 10000 * cG (digs (n / 10000)) = n
    rw [ih _ (by omega)]
    omega
theorem digs_lt (n : Nat) : ∀ d ∈ digs n, d < 10000 := by
 induction n using Nat.strongRecOn with
 | _ n ih =>
  by_cases h0 : n = 0
  · subst h0; rw [digs_zero]; simp
  · rw [digs_pos h0]
    intro d hd
    rcases List.mem_cons.1 hd with rfl | hd
    · omega
    · exact ih _ (by omega) d hd
theorem digs_mono {a b : Nat} (h : a ≤ b) : (digs a).length ≤ (digs b).length := by
 induction b using Nat.strongRecOn generalizing a with
 | _ b ih =>
  by_cases h0 : a = 0
  · subst h0; rw [digs_zero]; simp
  · rw [digs_pos h0, digs_pos (n := b) (by omega)]
    have := ih (b / 10000) (by omega) (a := a / 10000) (Nat.div_le_div_right h)
    simp only [List.length_cons]
    omega
theorem cJ (n : Nat) : Dig (digs n) := dig_of (digs_lt n)
section
variable {csz : List Nat} {numc : List Bool} {okT : List Nat} {nt : Nat} {cl : List Cl} {w0 : World} {p1 p2 : jQ} {res : RPat} {ds es : List Nat} {n : Nat}
theorem e_small (hn : n < 18446744073709551616) (h1 : PV csz numc okT nt cl w0 p1 (ui n)) (h3 : RD csz numc okT nt cl w0 res (digs n)) : V csz numc okT nt cl w0 (.call 87) [p1] res := by
 refine ⟨enters_of Tryz.func87 (by kernel_rfl) rfl, fun w vs hb hvs => ?_⟩
 obtain ⟨v1, _, rfl, h4, rfl⟩ := hvs
 obtain rfl := h1 _ _ h4
 refine (small_ok n hn w).mono ?_
 rintro e w' ⟨v, rfl, hv, hb'⟩
 exact ⟨_, rfl, h3 w' v hv, hb'⟩
theorem e_product (h1 : PD csz numc okT nt cl w0 p1 ds) (h2 : PD csz numc okT nt cl w0 p2 es) (hds : Dig ds) (hes : Dig es) (hl1 : ds.length < 100000000) (hl2 : es.length < 100000000) (h3 : RD csz numc okT nt cl w0 res (digs (cG ds * cG es))) : V csz numc okT nt cl w0 (.call 93) [p1, p2] res := by
 refine ⟨enters_of Tryz.func93 (by kernel_rfl) rfl, fun w vs hb hvs => ?_⟩
 obtain ⟨v1, _, rfl, h4, v2, _, rfl, h5, rfl⟩ := hvs
 refine (product_ok v1 v2 ds es w (h1 _ _ hb h4) (h2 _ _ hb h5) hds hes hl1 hl2).mono ?_
 rintro e w' ⟨v, rfl, hv, hb'⟩
 exact ⟨_, rfl, h3 w' v hv, hb'⟩
theorem e_order (h1 : PD csz numc okT nt cl w0 p1 ds) (h2 : PD csz numc okT nt cl w0 p2 es) (hds : Dig ds) (hes : Dig es) (h3 : RV csz numc okT nt cl w0 res (ii (cmpN (cG ds) (cG es)))) : V csz numc okT nt cl w0 (.call 89) [p1, p2] res := by
 refine ⟨enters_of Tryz.func89 (by kernel_rfl) rfl, fun w vs hb hvs => ?_⟩
 obtain ⟨v1, _, rfl, h4, v2, _, rfl, h5, rfl⟩ := hvs
 refine (order_ok v1 v2 ds es w (h1 _ _ hb h4) (h2 _ _ hb h5) hds hes).mono ?_
 rintro e w' ⟨rfl, hb'⟩
 exact ⟨_, rfl, h3 w', hb'⟩
theorem e_rest (h1 : PD csz numc okT nt cl w0 p1 ds) (h2 : PD csz numc okT nt cl w0 p2 es) (hds : Dig ds) (hes : Dig es) (hl1 : ds.length < 100000000) (hl2 : es.length ≤ ds.length) (hle : cG es ≤ cG ds) (h3 : RD csz numc okT nt cl w0 res (digs (cG ds - cG es))) : V csz numc okT nt cl w0 (.call 95) [p1, p2] res := by
 refine ⟨enters_of Tryz.func95 (by kernel_rfl) rfl, fun w vs hb hvs => ?_⟩
 obtain ⟨v1, _, rfl, h4, v2, _, rfl, h5, rfl⟩ := hvs
 refine (rest_ok v1 v2 ds es w (h1 _ _ hb h4) (h2 _ _ hb h5) hds hes hl1 hl2 hle).mono ?_
 rintro e w' ⟨v, rfl, hv, _, hb'⟩
 exact ⟨_, rfl, h3 w' v hv, hb'⟩
end
noncomputable def b_div : Code := bodyOf Tryz.f100
noncomputable def lo_div : Code := cP (cP (cq (cI (cq (cq (cq b_div))))))
noncomputable def li_div : Code := cP (cP (cI (cq (cq (cP (cI (cq lo_div)))))))
abbrev vl_di (x y q r : Value) (i : Int) (Y R low high : Nat) : List Value := [x, y, q, r, ii i, ii (low : Int), ii (high : Int), ii ((high - low : Nat) : Int), ii ((low + high : Nat) : Int), ii (((low + high) / 2 : Nat) : Int), ui ((low + high) / 2), ii (cmpN (Y * ((low + high) / 2)) R)]
def t_di (b2 : Bool) : List cW := [⟨.bin .sub 3, [op 6, op 5], .val (op 7)⟩, ⟨.bin .gtr 3, [op 7, vp (ii 1)], .val (vp (.bool true))⟩, ⟨.bin .add 3, [op 5, op 6], .val (op 8)⟩, ⟨.bin .quo 3, [op 8, vp (ii 2)], .val (op 9)⟩, ⟨.cv 3 23, [op 9], .val (op 10)⟩, ⟨.call 87, [op 10], .val (op 12)⟩, ⟨.call 93, [op 1, op 12], .val (op 13)⟩, ⟨.call 89, [op 13, op 3], .val (op 11)⟩, ⟨.bin .leq 3, [op 11, vp (ii 0)], .val (vp (.bool b2))⟩]
def t_di0 : List cW := [⟨.bin .sub 3, [op 6, op 5], .val (op 7)⟩, ⟨.bin .gtr 3, [op 7, vp (ii 1)], .val (vp (.bool false))⟩]
theorem cmpN_le {a b : Nat} : cmpN a b ≤ 0 ↔ a ≤ b := by unfold cmpN; split <;> (try split) <;> omega
theorem div_inner (x y q r : Value) (i : Int) (es rl : List Nat) (hes : Dig es) (hrl : Dig rl) (hl1 : es.length < 100000000) (hx1 : x.oneCell' = true) (hq1 : q.oneCell' = true) (a : Act) (w1 : World) (hy : Dg w1 y es) (hr : Dg w1 r rl) (h10 : cG rl < 10000 * cG es)
 (hs : kl 63 (vl_di x y q r i (cG es) (cG rl) 0 10000) [(0, 0), (1, 1), (6, 2), (7, 3), (8, 4), (9, 5), (10, 6)] a) {Q : Exit → Act → World → Prop}
 (hQ : ∀ a' w', kl 63 [x, y, q, r, ii i, ii ((cG rl / cG es : Nat) : Int)] [(0, 0), (1, 1), (6, 2), (7, 3), (8, 4), (9, 5)] a' → Below w1.heap.size w1 w' → Q .normal a' w') : (Code.block 2 (.loop li_div)).wp Tryz.prog Q a w1 := by
 refine jz (Θ := Nat × Nat) (fun θ a w' => θ.2 ≤ 10000 ∧ θ.1 < θ.2 ∧ cG es * θ.1 ≤ cG rl ∧ cG rl < cG es * θ.2 ∧ kl 63 (vl_di x y q r i (cG es) (cG rl) θ.1 θ.2) [(0, 0), (1, 1), (6, 2), (7, 3), (8, 4), (9, 5), (10, 6)] a ∧ Below w1.heap.size w1 w') (fun θ => θ.2 - θ.1) ?_ (0, 10000) ⟨Nat.le_refl _, by decide, by simp, by show cG rl < cG es * 10000; omega, hs, Below.refl _ _⟩
 rintro ⟨low, high⟩ a w2 ⟨hh, hlh, h1, h2, hs, hb⟩
 have hh : high ≤ 10000 := hh
 have hlh : low < high := hlh
 have h1 : cG es * low ≤ cG rl := h1
 have h2 : cG rl < cG es * high := h2
 have one : ∀ v ∈ vl_di x y q r i (cG es) (cG rl) low high, v.oneCell' = true := cg hx1 (cg hy.one (cg hq1 (cg hr.one (cg rfl (cg rfl (cg rfl (cg rfl (cg rfl (cg rfl (cg rfl (cg rfl cR)))))))))))
 by_cases hgo : 1 < high - low
 · have hm9 : (low + high) / 2 < 10000 := by omega
   have hT : ∀ b2, decide (cG es * ((low + high) / 2) ≤ cG rl) = b2 → ∀ t ∈ t_di b2, t.Valid (CX 63 (vl_di x y q r i (cG es) (cG rl) low high) [ko (digs ((low + high) / 2)), ko (digs (cG es * ((low + high) / 2)))] w2) := fun b2 hb2 =>
    ca (e_sub (by omega) (jj rfl) (jj rfl) (kn rfl) (by omega)) (ca (kw (jj rfl) jR (decide_eq_true (by omega))) (ca (e_add (by omega) (jj rfl) (jj rfl) (kn rfl) (by omega)) (ca (e_quo (k := .i64) (n := 2) (jj rfl) jR (kn rfl) (by decide) (by rw [IntKind.wrap_i64]; omega))
     (ca (e_cv (by kernel_rfl) (by kernel_rfl) (by kernel_rfl) (jj rfl) (kn rfl) (by rw [IntKind.wrap_u64]; omega)) (ca (e_small (by omega) (jj rfl) (rd rfl)) (ca (e_product (es := digs ((low + high) / 2)) (pdW rfl (hy.below hb (Nat.le_refl _))) (pd rfl) hes (cJ _) hl1 (by have := digs_len 1 ((low + high) / 2) (by omega); omega) (rd (by rw [cw]; rfl)))
      (ca (e_order (ds := digs (cG es * ((low + high) / 2))) (pd rfl) (pdW rfl (hr.below hb (Nat.le_refl _))) (cJ _) hrl (by rw [cw]; exact kn rfl)) (ca (e_leq (jj rfl) jR (by rw [← hb2]; congr 1; exact propext cmpN_le)) ce))))))))
   by_cases hc : cG es * ((low + high) / 2) ≤ cG rl
   · refine seg_x [ko (digs ((low + high) / 2)), ko (digs (cG es * ((low + high) / 2)))] [(0, 0), (1, 1), (6, 2), (7, 3), (8, 4), (9, 5), (10, 6)] [(0, 0), (1, 1), (6, 2), (7, 3), (8, 4), (9, 9), (10, 6)] (n := 30) (x := .normal) one (cb (cF noT _) (cb (cF noT _) cD)) (hT true (decide_eq_true hc)) hs (by kernel_rfl) rfl rfl (fun a5 w5 hs hb5 => ?_)
     exact ⟨((low + high) / 2, high), ⟨hh, by show (low + high) / 2 < high; omega, hc, h2, ⟨hs.defers, hs.size, hs.sl⟩, hb.trans (hb5.mono hb.size)⟩, by show high - (low + high) / 2 < high - low; omega⟩
   · refine seg_x [ko (digs ((low + high) / 2)), ko (digs (cG es * ((low + high) / 2)))] [(0, 0), (1, 1), (6, 2), (7, 3), (8, 4), (9, 5), (10, 6)] [(0, 0), (1, 1), (6, 2), (7, 3), (8, 4), (9, 5), (10, 9)] (n := 30) (x := .normal) one (cb (cF noT _) (cb (cF noT _) cD)) (hT false (decide_eq_false hc)) hs (by kernel_rfl) rfl rfl (fun a5 w5 hs hb5 => ?_)
     exact ⟨(low, (low + high) / 2), ⟨by show (low + high) / 2 ≤ 10000; omega, by show low < (low + high) / 2; omega, h1, Nat.lt_of_not_le hc, ⟨hs.defers, hs.size, hs.sl⟩, hb.trans (hb5.mono hb.size)⟩, by show (low + high) / 2 - low < high - low; omega⟩
 · have hT : ∀ t ∈ t_di0, t.Valid (CV 63 (vl_di x y q r i (cG es) (cG rl) low high) w2) := ca (e_sub (by omega) (jj rfl) (jj rfl) (kn rfl) (by omega)) (ca (kw (jj rfl) jR (decide_eq_false (by omega))) ce)
   refine cZ [(0, 0), (1, 1), (6, 2), (7, 3), (8, 4), (9, 5), (10, 6)] [(0, 0), (1, 1), (6, 2), (7, 3), (8, 4), (9, 5)] (n := 30) (x := .exit 2) one hT hs (by kernel_rfl) rfl rfl (fun a5 w5 hs hb5 => ?_)
   have hlow : cG rl / cG es = low := by
    have : high = low + 1 := by omega
    subst this
    exact Nat.div_eq_of_lt_le (by rw [Nat.mul_comm]; exact h1) (by rw [Nat.mul_comm]; exact h2)
   refine hQ a5 w5 ⟨hs.defers, hs.size, ?_⟩ (hb.trans (hb5.mono hb.size))
   rw [hlow]
   exact hs.sl
theorem ret_v2 {fn : Func} {t s : Nat} {a : Act} {w : World} {v u : Value} (hr : fn.results = #[.tmp t, .tmp s]) (hd : a.defers = []) (ht : a.tmps[t]? = some v) (hu : a.tmps[s]? = some u) {Q : Ending → World → Prop} (h : Q (.returned (.tuple #[v, u])) w) : bodyPost Tryz.prog fn Q .ret a w := by
 refine ⟨hd, .tuple #[v, u], ?_, h⟩
 rw [results_eq, hr]
 have e1 : a.tmps.getD t undef = v := by rw [Array.getD_eq_getD_getElem?, ht]; rfl
 have e2 : a.tmps.getD s undef = u := by rw [Array.getD_eq_getD_getElem?, hu]; rfl
 simp [resF, e1, e2]
abbrev vl_dc (x y q r : Value) (ds : List Nat) (i : Nat) : List Value := [x, y, q, r, ii (i : Int), jI x i, ii ((ds.getD i 0 : Nat) : Int)]
theorem div_cons (x y q r : Value) (ds rl : List Nat) (i : Nat) (hi : i < ds.length) (hds : Dig ds) (a : Act) (w1 : World) (hx : Dg w1 x ds) (hy1 : y.oneCell' = true) (hq1 : q.oneCell' = true) (hr : Dg w1 r rl) (hl : rl.length < 100000000)
 (hs : kl 63 (vl_dc x y q r ds i) [(0, 0), (1, 1), (6, 2), (7, 3), (8, 4)] a) {Q : Exit → Act → World → Prop}
 (hQ : ∀ a' w' r', Dg w' r' (jH (ds.getD i 0 :: rl)) → (∀ k, r'.ownBlock = some k → w1.heap.size ≤ k) → kl 63 [x, y, q, r', ii (i : Int)] [(0, 0), (1, 1), (6, 2), (7, 3), (8, 4)] a' → Below w1.heap.size w1 w' → Q .normal a' w') : (cI (cP (cI (cq lo_div)))).wp Tryz.prog Q a w1 := by
 have one : ∀ v ∈ vl_dc x y q r ds i, v.oneCell' = true := cg hx.one (cg hy1 (cg hq1 (cg hr.one (cg rfl (cg (jy _ _) (cg rfl cR))))))
 have hT : ∀ t ∈ [(⟨.ix 31, [op 0, op 4], .val (op 5)⟩ : cW), ⟨.ld 3, [op 5], .val (op 6)⟩], t.Valid (CV 63 (vl_dc x y q r ds i) w1) := ca (e_ixW cU elem_nat (jj rfl) hx (jj rfl) hi (kn rfl)) (ca (e_ldW (jj rfl) hx hi (kn rfl)) ce)
 show (Code.region 6 (opsOf (cI (cP (cI (cq lo_div))))).toArray false).wp Tryz.prog _ _ _
 refine wp_region_lit ?_
 show wpList _ _ _ ((opsOf (cI (cP (cI (cq lo_div))))).take 6 ++ (opsOf (cI (cP (cI (cq lo_div))))).drop 6) _ _
 refine ops_is (CV_ok one) hT (post := cT [(28, 3), (0, 0), (1, 1), (6, 2), (8, 4)] ++ [.own 27 3 1 [.cls 6 1]]) (by kernel_rfl) (hs.at rfl) (fun a2 w2 hA => ?_)
 obtain ⟨⟨s28, hsl⟩, ⟨k, vs, s27, hk, hkc, hvs⟩, _⟩ := items_sl (is := [(28, 3), (0, 0), (1, 1), (6, 2), (8, 4)]) rfl hA.items
 have hvs : vs = [ii ((ds.getD i 0 : Nat) : Int)] := by
  obtain ⟨xs, ys, rfl, ⟨f, hE, rfl⟩, hy⟩ := hvs
  rw [show ys = [] from hy]
  have hE : f 0 = ii ((ds.getD i 0 : Nat) : Int) := hE
  simp [List.range_succ, hE]
 subst hvs
 have hown : Own w1.heap.size w2 (.slice (some ⟨k, 0, none⟩) 1 1) [ds.getD i 0] := ⟨rfl, .inr ⟨k, 1, #[ii ((ds.getD i 0 : Nat) : Int)], rfl, hk.1, hkc, Nat.le_refl _, by decide, rfl, rfl⟩⟩
 refine wp_cat rfl rfl s27 s28 (hr.below hA.below (Nat.le_refl _)) hown hA.below.size (by simp; omega) (fun z' w3 hown' hgr => ?_)
 have hb3 : Below w1.heap.size w1 w3 := hA.below.trans ⟨hgr.os, hgr.tape, hgr.output, hgr.size, fun j hj => hgr.block j (Nat.lt_of_lt_of_le hj hA.below.size) (fun e => by have := hown.lt j e.symm; have hj : j < w1.heap.size := hj; omega)⟩
 have hsz : 29 < a2.tmps.size := by rw [hA.size]; show 29 < 63; decide
 have hs : kl 63 [x, y, q, z', ii (i : Int)] [(29, 3), (0, 0), (1, 1), (6, 2), (8, 4)] (a2.put (some 29) z') := ⟨(put_defers _ _ _).trans hA.defers, (put_size _ _ _).trans hA.size, put_self hsz, Sl.put (vl := [x, y, q, z', ii (i : Int)]) (is := [(0, 0), (1, 1), (6, 2), (8, 4)]) rfl hsl⟩
 have one' : ∀ v ∈ [x, y, q, z', ii (i : Int)], v.oneCell' = true := cg hx.one (cg hy1 (cg hq1 (cg hown'.one (cg rfl cR))))
 have hT : ∀ t ∈ [(⟨.call 123, [op 3], .val (op 5)⟩ : cW)], t.Valid (CX 63 [x, y, q, z', ii (i : Int)] [clF w1.heap.size (jH (ds.getD i 0 :: rl))] w3) := ca (e_trimF (pfW rfl hown'.dg (fun k hk => (hown'.lt k hk).1)) (rf rfl)) ce
 refine ops_end (CX_ok one' (cb (clF_ok noT _ _) cD)) hT (pre := cT [(29, 3), (0, 0), (1, 1), (6, 2), (8, 4)] ++ []) (post := cT [(0, 0), (1, 1), (6, 2), (8, 4)] ++ [.val 7 (op 5)]) (by kernel_rfl) ⟨Below.refl _ _, hs.defers, hs.size, items_gen CX_get hs.sl rfl (fun _ => trivial), fun k hk => noL (CX_L rfl) hk⟩ (fun a4 w4 hA => ?_)
 obtain ⟨q1, ⟨⟨v, q2, q3⟩, _⟩⟩ := sl_gen (vl := [x, y, q, z', ii (i : Int)]) (is := [(0, 0), (1, 1), (6, 2), (8, 4)]) CX_get rfl hA.items
 exact hQ a4 w4 v ((op_isF rfl).1 q3).1 ((op_isF rfl).1 q3).2 ⟨hA.defers, hA.size, q1.1, q1.2.1, q1.2.2.1, q2, q1.2.2.2.1, trivial⟩ (hb3.trans (hA.below.mono hb3.size))
theorem nat_strip (l : List Nat) : cG (jH l) = cG l := by
 induction l with
 | nil => rfl
 | cons d l ih =>
  rw [strip_cons]
  split
  · rename_i h
    rw [h.2] at ih
    show 0 = d + 10000 * cG l
    rw [← ih, h.1]; rfl
  · show d + 10000 * cG (jH l) = d + 10000 * cG l
    rw [ih]
abbrev vl_do (x y q r : Value) (k : Nat) : List Value := [x, y, q, r, ii (idx k), ii (idx (k - 1))]
abbrev vl_dr (x y q r : Value) (i : Nat) (low : Nat) : List Value := [x, y, q, r, ii (i : Int), ii (low : Int), jI q i, ui low]
theorem divide_ok (x y : Value) (ds es : List Nat) (w : World) (hx : Dg w x ds) (hy : Dg w y es) (hds : Dig ds) (hes : Dig es) (hem : ∀ d ∈ es, d < 10000) (hl1 : ds.length < 10000000) (hl2 : es.length < 10000000) (hpos : 0 < cG es) :
 Calls Tryz.prog 100 #[x, y] w (fun e w' => ∃ v u, e = .returned (.tuple #[v, u]) ∧ Dg w' v (digs (cG ds / cG es)) ∧ Dg w' u (digs (cG ds % cG es)) ∧ Below w.heap.size w w') := by
 refine calls_v2 (nt := 63) (f := 100) Tryz.func100 (c := .seq (cI b_div) (.seq (cI (cq b_div)) (.seq (cI (cq (cq b_div))) (.seq (.seq (cI (cI (cq (cq (cq b_div))))) (.block 0 (.loop lo_div))) (cq (cq (cq (cq b_div)))))))) rfl rfl rfl x y (fun a hs => ?_)
 have one2 : ∀ v ∈ [x, y], v.oneCell' = true := cg hx.one (cg hy.one cR)
 refine wp_seq (cZ (T := []) [(0, 0), (1, 1)] [(0, 0), (1, 1)] (n := 30) (x := .normal) one2 ce hs (by kernel_rfl) rfl rfl (fun a1 w1 hs hb1 => ?_))
 refine wp_seq ?_
 have onel : ∀ v ∈ [x, y, ii (ds.length : Int)], v.oneCell' = true := cg hx.one (cg hy.one (cg rfl cR))
 have hT : ∀ t ∈ [(⟨.blt .len [31] 3, [op 0], .val (op 2)⟩ : cW)], t.Valid (CV 63 [x, y, ii (ds.length : Int)] w1) := ca (e_len cU (pdW rfl (hx.below hb1 (Nat.le_refl _))) (kn rfl)) ce
 have hs : kl 63 [x, y, ii (ds.length : Int)] [(0, 0), (1, 1)] a1 := ⟨hs.defers, hs.size, hs.sl⟩
 show (Code.region 1 (opsOf (cI (cq b_div))).toArray false).wp Tryz.prog _ _ _
 refine make_v [(0, 0), (1, 1)] [(0, 0), (1, 1)] 2 (s := 13) (d := 14) (t := 6) (B := w.heap.size) (n := ds.length) onel hT hs 2 (by kernel_rfl) rfl rfl rfl rfl rfl rfl rfl rfl rfl rfl rfl rfl rfl rfl hb1.size (by omega) (fun q a2 w2 hq hown hs hb2 => ?_)
 have hb := hb1.trans hb2
 have hs : kl 63 [x, y, q] [(6, 2), (0, 0), (1, 1)] a2 := ⟨hs.defers, hs.size, hq, hs.sl⟩
 refine wp_seq ?_
 show (Code.region 2 [_, _].toArray false).wp Tryz.prog _ _ _
 refine empty_v [(6, 2), (0, 0), (1, 1)] (d := 15) (t := 7) hs rfl rfl rfl rfl rfl rfl rfl rfl rfl rfl (B := w.heap.size) hb.size (fun r a3 w3 hr hownr hs hb3 => ?_)
 have hown := hown.below hb3
 have hb := hb.trans (hb3.mono hb.size)
 have hrd := hownr.dg
 have onei : ∀ v ∈ [x, y, q, r, ii (ds.length : Int), ii (idx ds.length)], v.oneCell' = true := cg hx.one (cg hy.one (cg hown.one (cg hrd.one (cg rfl (cg rfl cR)))))
 have hs : kl 63 [x, y, q, r, ii (ds.length : Int), ii (idx ds.length)] [(0, 0), (1, 1), (6, 2), (7, 3)] a3 := ⟨hs.defers, hs.size, hs.sl.2.1, hs.sl.2.2.1, hs.sl.1, hr, trivial⟩
 have hT : ∀ t ∈ [(⟨.blt .len [31] 3, [op 0], .val (op 4)⟩ : cW), ⟨.bin .sub 3, [op 4, vp (ii 1)], .val (op 5)⟩], t.Valid (CV 63 [x, y, q, r, ii (ds.length : Int), ii (idx ds.length)] w3) :=
  ca (e_len cU (pdW rfl (hx.below hb (Nat.le_refl _))) (kn rfl)) (ca (e_sub (by cases hk : ds.length with | zero => rfl | succ m => show ((m + 1 : Nat) : Int) - 1 = (m : Int); omega) (jj rfl) jR (kn rfl) (by cases hk : ds.length with | zero => decide | succ m => show _ ≤ (m : Int) ∧ (m : Int) ≤ _; omega)) ce)
 refine wp_seq (wp_seq (cZ [(0, 0), (1, 1), (6, 2), (7, 3)] [(0, 0), (1, 1), (6, 2), (7, 3), (8, 5)] (n := 30) (x := .normal) onei hT hs (by kernel_rfl) rfl rfl (fun a4 w4 hs hb4 => ?_)))
 have hown := hown.below hb4
 have hrd := hrd.below hb4 (Nat.le_refl _)
 have hb := hb.trans (hb4.mono hb.size)
 refine jz (Θ := Nat) (fun k a w1 => ∃ r ql, k ≤ ds.length ∧ ql.length = ds.length ∧ (∀ d ∈ ql, d < 10000) ∧ cG (ql.drop k) = cG (ds.drop k) / cG es ∧ Dg w1 r (digs (cG (ds.drop k) % cG es)) ∧ kl 63 (vl_do x y q r k) [(0, 0), (1, 1), (6, 2), (7, 3), (8, 4)] a ∧ Own w.heap.size w1 q ql ∧ Below w.heap.size w w1) id ?_ ds.length ⟨r, List.replicate ds.length 0, Nat.le_refl _, List.length_replicate, fun d hd => by have := List.eq_of_mem_replicate hd; omega, by rw [kf (by simp), kf (Nat.le_refl _)]; simp, by rw [kf (Nat.le_refl _), Nat.zero_mod, digs_zero]; exact hrd, ⟨hs.defers, hs.size, hs.sl⟩, hown, hb⟩
 rintro k a w1 ⟨r, ql, hk, hql, hqd, hnq, hr, hs, hown, hb⟩
 have one : ∀ v ∈ vl_do x y q r k, v.oneCell' = true := cg hx.one (cg hy.one (cg hown.one (cg hr.one (cg rfl (cg rfl cR)))))
 cases k with
 | zero =>
  have hT : ∀ t ∈ [(⟨.bin .geq 3, [op 4, vp (ii 0)], .val (vp (.bool false))⟩ : cW)], t.Valid (CV 63 (vl_do x y q r 0) w1) := ca (e_geq (jj rfl) jR (decide_eq_false (by decide))) ce
  refine wp_seq (cZ [(0, 0), (1, 1), (6, 2), (7, 3), (8, 4)] [(6, 2), (7, 3)] (n := 30) (x := .exit 0) one hT hs (by kernel_rfl) rfl rfl (fun a5 w5 hs hb5 => ?_))
  have hown := hown.below hb5
  have hr := hr.below hb5 (Nat.le_refl _)
  have hb := hb.trans (hb5.mono hb.size)
  have hs : kl 63 [q, r] [(6, 0), (7, 1)] a5 := ⟨hs.defers, hs.size, hs.sl⟩
  have hT : ∀ t ∈ [(⟨.call 123, [op 0], .val (op 2)⟩ : cW)], t.Valid (CX 63 [q, r] [ko (jH ql)] w5) := ca (e_trim (pdW rfl hown.dg) (rd rfl)) ce
  refine seg_xd [ko (jH ql)] [(6, 0), (7, 1)] [(5, 1)] 4 2 (cg hown.one (cg hr.one cR)) (cb (cF noT _) cD) hT hs rfl (n := 30) (x := .ret) (by kernel_rfl) rfl rfl (fun a6 w6 v h4 hv hs hb6 => ret_v2 rfl hs.defers h4 hs.sl.1 ⟨v, r, rfl, ?_, ?_, hb.trans (hb6.mono hb.size)⟩)
  · have h0 : cG ql = cG ds / cG es := by simpa using hnq
    rw [← h0, digs_nat hqd]
    exact hv
  · have := hr.below hb6 (Nat.le_refl _)
    simpa using this
 | succ i =>
  have hk : i < ds.length := hk
  have hT : ∀ w1, ∀ t ∈ [(⟨.bin .geq 3, [op 4, vp (ii 0)], .val (vp (.bool true))⟩ : cW)], t.Valid (CV 63 (vl_do x y q r (i + 1)) w1) := fun w1 => ca (e_geq (x := (i : Int)) (jj rfl) jR (decide_eq_true (by omega))) ce
  refine wp_seq (cZ [(0, 0), (1, 1), (6, 2), (7, 3), (8, 4)] [(0, 0), (1, 1), (6, 2), (7, 3), (8, 4)] (n := 30) (x := .normal) one (hT w1) hs (by kernel_rfl) rfl rfl (fun a5 w5 hs hb5 => ?_))
  have hown := hown.below hb5
  have hr := hr.below hb5 (Nat.le_refl _)
  have hb := hb.trans (hb5.mono hb.size)
  have hrlen : (digs (cG (ds.drop (i + 1)) % cG es)).length ≤ es.length := by
   refine digs_len _ _ (Nat.lt_trans (Nat.mod_lt _ hpos) (nat_bound hem))
  have hs : kl 63 (vl_dc x y q r ds i) [(0, 0), (1, 1), (6, 2), (7, 3), (8, 4)] a5 := ⟨hs.defers, hs.size, hs.sl⟩
  refine wp_seq (wp_block (wp_seq (div_cons x y q r ds _ i hk hds a5 w5 (hx.below hb (Nat.le_refl _)) hy.one hown.one hr (by omega) hs (fun a6 w6 r' hr' hfr hs hb6 => ?_))))
  have hfr : ∀ k, r'.ownBlock = some k → some k ≠ q.ownBlock := fun k hk e => by
   have h1 := hfr k hk
   have h2 := (hown.lt k e.symm).2
   omega
  have hown := hown.below hb6
  have hb := hb.trans (hb6.mono hb.size)
  have hRl : ∀ d ∈ (ds.getD i 0 :: digs (cG (ds.drop (i + 1)) % cG es)), d < 10000 := by
   intro d hd
   rcases List.mem_cons.1 hd with rfl | hd
   · exact hds i
   · exact digs_lt _ d hd
  have hR : cG (jH (ds.getD i 0 :: digs (cG (ds.drop (i + 1)) % cG es))) = ds.getD i 0 + 10000 * (cG (ds.drop (i + 1)) % cG es) := by
   rw [nat_strip]
   show _ + 10000 * cG (digs _) = _
   rw [cw]
  rw [← digs_nat hRl, show cG (ds.getD i 0 :: digs (cG (ds.drop (i + 1)) % cG es)) = ds.getD i 0 + 10000 * (cG (ds.drop (i + 1)) % cG es) by rw [← nat_strip]; exact hR] at hr'
  have hmod := Nat.mod_lt (cG (ds.drop (i + 1))) hpos
  have hdi := hds i
  have hdr := nat_drop ds i
  have hdm := Nat.mod_add_div (cG (ds.drop (i + 1))) (cG es)
  generalize hRR : ds.getD i 0 + 10000 * (cG (ds.drop (i + 1)) % cG es) = R at hr'
  have hRlt : R < 10000 * cG es := by omega
  have hq1 : cG (ds.drop i) / cG es = R / cG es + 10000 * (cG (ds.drop (i + 1)) / cG es) := by
   rw [hdr, ← hdm, show ds.getD i 0 + 10000 * (cG (ds.drop (i + 1)) % cG es + cG es * (cG (ds.drop (i + 1)) / cG es)) = R + cG es * (10000 * (cG (ds.drop (i + 1)) / cG es)) by rw [← hRR]; grind]
   rw [Nat.add_mul_div_left _ _ hpos, hdm]
  have hq2 : cG (ds.drop i) % cG es = R % cG es := by
   rw [hdr, ← hdm, show ds.getD i 0 + 10000 * (cG (ds.drop (i + 1)) % cG es + cG es * (cG (ds.drop (i + 1)) / cG es)) = R + cG es * (10000 * (cG (ds.drop (i + 1)) / cG es)) by rw [← hRR]; grind]
   rw [Nat.add_mul_mod_self_left]
  have hRlen : (digs R).length ≤ es.length + 1 := by
   refine digs_len _ _ (Nat.lt_of_lt_of_le hRlt ?_)
   rw [Nat.pow_succ, Nat.mul_comm]
   exact Nat.mul_le_mul_right _ (Nat.le_of_lt (nat_bound hem))
  have hlow9 : R / cG es < 10000 := Nat.div_lt_of_lt_mul (by rw [Nat.mul_comm]; exact hRlt)
  have onec : ∀ v ∈ [x, y, q, r', ii (i : Int)], v.oneCell' = true := cg hx.one (cg hy.one (cg hown.one (cg hr'.one (cg rfl cR))))
  refine wp_seq (seg_vl (T := []) [(0, 0), (1, 1), (6, 2), (7, 3), (8, 4)] [(0, 0), (1, 1), (6, 2), (7, 3), (8, 4)] [(9, ii 0), (10, ii 10000)] (n := 30) (x := .normal) onec ce hs (by kernel_rfl) rfl rfl (fun a7 w7 hs hll hb7 => ?_))
  have hown := hown.below hb7
  have hr' := hr'.below hb7 (Nat.le_refl _)
  have hb := hb.trans (hb7.mono hb.size)
  have hs : kl 63 (vl_di x y q r' (i : Int) (cG es) (cG (digs R)) 0 10000) [(0, 0), (1, 1), (6, 2), (7, 3), (8, 4), (9, 5), (10, 6)] a7 := ⟨hs.defers, hs.size, hs.sl.1, hs.sl.2.1, hs.sl.2.2.1, hs.sl.2.2.2.1, hs.sl.2.2.2.2.1, hll.1, hll.2.1, trivial⟩
  refine wp_seq (div_inner x y q r' (i : Int) es (digs R) hes (cJ R) (by omega) hx.one hown.one a7 w7 (hy.below hb (Nat.le_refl _)) hr' (by rw [cw]; exact hRlt) hs (fun a8 w8 hs hb8 => ?_))
  rw [cw] at hs
  have hown := hown.below hb8
  have hr' := hr'.below hb8 (Nat.le_refl _)
  have hb := hb.trans (hb8.mono hb.size)
  generalize hLL : R / cG es = low at hs hlow9 hq1
  have onee : ∀ v ∈ vl_dr x y q r' i low, v.oneCell' = true := cg hx.one (cg hy.one (cg hown.one (cg hr'.one (cg rfl (cg rfl (cg (jy _ _) (cg rfl cR)))))))
  have hs : kl 63 (vl_dr x y q r' i low) [(0, 0), (1, 1), (6, 2), (7, 3), (8, 4), (9, 5)] a8 := ⟨hs.defers, hs.size, hs.sl⟩
  have hT : ∀ t ∈ [(⟨.ix 31, [op 2, op 4], .val (op 6)⟩ : cW)], t.Valid (CV 63 (vl_dr x y q r' i low) w8) := ca (e_ixW cU elem_nat (jj rfl) hown.dg (jj rfl) (by omega) (kn rfl)) ce
  refine wp_seq ?_
  show (Code.region 13 (opsOf (cI (cq (cq (cq (cP (cI (cq lo_div)))))))).toArray false).wp Tryz.prog _ _ _
  refine store_v [(0, 0), (1, 1), (6, 2), (7, 3), (8, 4), (9, 5)] [(0, 0), (1, 1), (6, 2), (7, 3), (8, 4), (9, 5)] 4 (s := 52) (t := 51) (cp := 6) (cv := 5) (z := q) (ds := ql) (j := i) (d := low) onee hT hs (by kernel_rfl) rfl rfl rfl rfl rfl rfl rfl rfl hown hb.size (by omega) (fun a9 w9 hown hs hb9 hkeep => ?_)
  have hr' := hkeep r' _ hr' hfr
  have hb := hb.trans hb9
  have hdm := Nat.div_add_mod R (cG es)
  rw [hLL] at hdm
  have hT : ∀ t ∈ [(⟨.cv 3 23, [op 5], .val (op 7)⟩ : cW), ⟨.call 87, [op 7], .val (op 8)⟩, ⟨.call 93, [op 1, op 8], .val (op 9)⟩, ⟨.call 95, [op 3, op 9], .val (op 10)⟩], t.Valid (CX 63 (vl_dr x y q r' i low) [ko (digs low), ko (digs (cG es * low)), ko (digs (R - cG es * low))] w9) :=
   ca (e_cv (by kernel_rfl) (by kernel_rfl) (by kernel_rfl) (jj rfl) (kn rfl) (by rw [IntKind.wrap_u64]; omega)) (ca (e_small (by omega) (jj rfl) (rd rfl)) (ca (e_product (es := digs low) (pdW rfl (hy.below hb (Nat.le_refl _))) (pd rfl) hes (cJ _) (by omega) (by have := digs_len 1 low (by omega); omega) (rd (by rw [cw]; rfl)))
    (ca (e_rest (ds := digs R) (es := digs (cG es * low)) (pdW rfl hr') (pd rfl) (cJ _) (cJ _) (by omega) (digs_mono (by omega)) (by rw [cw, cw]; omega) (rd (by rw [cw, cw]; rfl))) ce)))
  refine seg_xd [ko (digs low), ko (digs (cG es * low)), ko (digs (R - cG es * low))] [(0, 0), (1, 1), (6, 2), (7, 3), (8, 4), (9, 5)] [(0, 0), (1, 1), (6, 2), (8, 4)] 7 10 onee (cb (cF noT _) (cb (cF noT _) (cb (cF noT _) cD))) hT hs rfl (n := 30) (x := .normal) (by kernel_rfl) rfl rfl (fun a10 w10 r2 h7 hr2 hs hb10 => ?_)
  have hown := hown.below hb10
  have hb := hb.trans (hb10.mono hb.size)
  show (cq (cq lo_div)).wp Tryz.prog _ _ _
  have one2 : ∀ v ∈ vl_do x y q r2 (i + 1), v.oneCell' = true := cg hx.one (cg hy.one (cg hown.one (cg hr2.one (cg rfl (cg rfl cR)))))
  have hs : kl 63 (vl_do x y q r2 (i + 1)) [(0, 0), (1, 1), (6, 2), (7, 3), (8, 4)] a10 := ⟨hs.defers, hs.size, hs.sl.1, hs.sl.2.1, hs.sl.2.2.1, h7, hs.sl.2.2.2.1, trivial⟩
  have hT : ∀ t ∈ [(⟨.bin .sub 3, [op 4, vp (ii 1)], .val (op 5)⟩ : cW)], t.Valid (CV 63 (vl_do x y q r2 (i + 1)) w10) := ca (e_sub (x := (i : Int)) (u := idx i) (by cases i with | zero => rfl | succ j => show ((j + 1 : Nat) : Int) - 1 = (j : Int); omega) (jj rfl) jR (kn rfl) (by cases i with | zero => decide | succ j => show _ ≤ (j : Int) ∧ (j : Int) ≤ _; omega)) ce
  refine cZ [(0, 0), (1, 1), (6, 2), (7, 3), (8, 4)] [(0, 0), (1, 1), (6, 2), (7, 3), (8, 5)] (n := 30) (x := .normal) one2 hT hs (by kernel_rfl) rfl rfl (fun a11 w11 hs hb11 => ?_)
  refine ⟨i, ⟨r2, ql.set i low, by omega, by rw [List.length_set]; exact hql, mem_set_lt hqd hlow9, ?_, ?_, ⟨hs.defers, hs.size, hs.sl⟩, hown.below hb11, hb.trans (hb11.mono hb.size)⟩, Nat.lt_succ_self i⟩
  · rw [hq1, ← hnq, nat_drop (ql.set i low) i, List.drop_set_of_lt (by omega)]
    congr 1
    simp [List.getD, hql, hk]
  · rw [hq2, show R % cG es = R - cG es * low by omega]
    exact hr2.below hb11 (Nat.le_refl _)
end Sym
open Go Go.RowKit Go.Proofs Lim
namespace Sym
section
variable {csz : List Nat} {numc : List Bool} {okT : List Nat} {nt : Nat} {cl : List Cl} {w0 : World} {p1 p2 : jQ} {c1 c2 : Nat} {ds es : List Nat}
theorem e_divide (h1 : PD csz numc okT nt cl w0 p1 ds) (h2 : PD csz numc okT nt cl w0 p2 es) (hds : Dig ds) (hes : Dig es) (hem : ∀ d ∈ es, d < 10000) (hl1 : ds.length < 10000000) (hl2 : es.length < 10000000) (hpos : 0 < cG es) (h3 : cl[c1]? = some (ko (digs (cG ds / cG es)))) (h4 : cl[c2]? = some (ko (digs (cG ds % cG es)))) :
 V csz numc okT nt cl w0 (.call 100) [p1, p2] (.tup [op c1, op c2]) := by
 refine ⟨enters_of Tryz.func100 (by kernel_rfl) rfl, fun w vs hb hvs => ?_⟩
 obtain ⟨v1, _, rfl, h5, v2, _, rfl, h6, rfl⟩ := hvs
 refine (divide_ok v1 v2 ds es w (h1 _ _ hb h5) (h2 _ _ hb h6) hds hes hem hl1 hl2 hpos).mono ?_
 rintro e w' ⟨v, u, rfl, hv, hu, hb'⟩
 exact ⟨_, rfl, ⟨[v, u], ⟨_, _, rfl, (op_isD h3).2 hv, _, _, rfl, (op_isD h4).2 hu, rfl⟩, rfl⟩, hb'⟩
end
noncomputable def b_gcd : Code := bodyOf Tryz.f124
noncomputable def l_gcd : Code := cP (cP (cI (cq b_gcd)))
theorem digs_pos_len {n : Nat} : 0 < (digs n).length ↔ n ≠ 0 := by
 constructor
 · rintro h rfl
   rw [digs_zero] at h; simp at h
 · intro h
   rw [digs_pos h]; simp
theorem common_ok (x y : Value) (m n : Nat) (w : World) (hx : Dg w x (digs m)) (hy : Dg w y (digs n)) (hl1 : (digs m).length < 10000000) (hl2 : (digs n).length < 10000000) : Calls Tryz.prog 124 #[x, y] w (fun e w' => ∃ v, e = .returned v ∧ Dg w' v (digs (Nat.gcd m n)) ∧ Below w.heap.size w w') := by
 refine calls_v2 (nt := 19) (f := 124) Tryz.func124 (c := .seq (cI b_gcd) (.seq (.block 0 (.loop l_gcd)) (cq (cq b_gcd)))) rfl rfl rfl x y (fun a hs => ?_)
 refine wp_seq (cZ (T := []) [(0, 0), (1, 1)] [(0, 0), (1, 1)] (n := 30) (x := .normal) (cg hx.one (cg hy.one cR)) ce hs (by kernel_rfl) rfl rfl (fun a1 w1 hs hb1 => ?_))
 refine wp_seq (jz (Θ := Nat × Nat) (fun θ a w1 => ∃ x y, Dg w1 x (digs θ.1) ∧ Dg w1 y (digs θ.2) ∧ (digs θ.1).length < 10000000 ∧ (digs θ.2).length < 10000000 ∧ Nat.gcd θ.1 θ.2 = Nat.gcd m n ∧ kl 19 [x, y] [(0, 0), (1, 1)] a ∧ Below w.heap.size w w1) (fun θ => θ.2) ?_ (m, n) ⟨x, y, hx.below hb1 (Nat.le_refl _), hy.below hb1 (Nat.le_refl _), hl1, hl2, rfl, hs, hb1⟩)
 rintro ⟨m', n'⟩ a w2 ⟨x, y, hx, hy, hl1, hl2, hg, hs, hb⟩
 have hg : Nat.gcd m' n' = Nat.gcd m n := hg
 have hs : kl 19 [x, y, ii ((digs n').length : Int)] [(0, 0), (1, 1)] a := ⟨hs.defers, hs.size, hs.sl⟩
 have one : ∀ v ∈ [x, y, ii ((digs n').length : Int)], v.oneCell' = true := cg hx.one (cg hy.one (cg rfl cR))
 by_cases h0 : n' = 0
 · subst h0
   have hT : ∀ t ∈ [(⟨.blt .len [31] 3, [op 1], .val (op 2)⟩ : cW), ⟨.bin .gtr 3, [op 2, vp (ii 0)], .val (vp (.bool false))⟩], t.Valid (CV 19 [x, y, ii ((digs 0).length : Int)] w2) := ca (e_len cU (pdW rfl hy) (kn rfl)) (ca (kw (jj rfl) jR (decide_eq_false (by rw [digs_zero]; decide))) ce)
   refine wp_seq (cZ [(0, 0), (1, 1)] [(0, 0)] (n := 30) (x := .exit 0) one hT hs (by kernel_rfl) rfl rfl (fun a5 w5 hs hb5 => ?_))
   refine cZ (T := []) [(0, 0)] [(4, 0)] (n := 30) (x := .ret) one ce hs (by kernel_rfl) rfl rfl (fun a6 w6 hs hb6 => ret_v rfl hs.defers hs.sl.1 ⟨x, rfl, ?_, (hb.trans (hb5.mono hb.size)).trans (hb6.mono (Nat.le_trans hb.size hb5.size))⟩)
   rw [← hg, Nat.gcd_zero_right]
   exact (hx.below hb5 (Nat.le_refl _)).below hb6 (Nat.le_refl _)
 · have hpos : 0 < n' := Nat.pos_of_ne_zero h0
   have hlen := digs_pos_len.2 h0
   have hT : ∀ t ∈ [(⟨.blt .len [31] 3, [op 1], .val (op 2)⟩ : cW), ⟨.bin .gtr 3, [op 2, vp (ii 0)], .val (vp (.bool true))⟩, ⟨.call 100, [op 0, op 1], .tup [op 3, op 4]⟩], t.Valid (CX 19 [x, y, ii ((digs n').length : Int)] [ko (digs (m' / n')), ko (digs (m' % n'))] w2) :=
    ca (e_len cU (pdW rfl hy) (kn rfl)) (ca (kw (jj rfl) jR (decide_eq_true (by omega))) (ca (e_divide (ds := digs m') (es := digs n') (pdW rfl hx) (pdW rfl hy) (cJ _) (cJ _) (digs_lt _) hl1 hl2 (by rw [cw]; exact hpos) (by rw [cw, cw]; rfl) (by rw [cw, cw]; rfl)) ce))
   refine seg_xd [ko (digs (m' / n')), ko (digs (m' % n'))] [(0, 0), (1, 1)] [(0, 1)] 1 4 one (cb (cF noT _) (cb (cF noT _) cD)) hT hs rfl (n := 30) (x := .normal) (by kernel_rfl) rfl rfl (fun a5 w5 r h1 hr hs hb5 => ?_)
   have hml := Nat.mod_lt m' hpos
   refine ⟨(n', m' % n'), ⟨y, r, hy.below hb5 (Nat.le_refl _), hr, hl2, Nat.lt_of_le_of_lt (digs_mono (Nat.le_of_lt hml)) hl2, ?_, ⟨hs.defers, hs.size, hs.sl.1, h1, trivial⟩, hb.trans (hb5.mono hb.size)⟩, hml⟩
   rw [← hg]
   show Nat.gcd n' (m' % n') = Nat.gcd m' n'
   rw [Nat.gcd_comm m' n', Nat.gcd_rec n' m', Nat.gcd_comm]
section
variable {csz : List Nat} {numc : List Bool} {okT : List Nat} {nt : Nat} {cl : List Cl} {w0 : World} {p1 p2 : jQ} {res : RPat} {m n : Nat}
theorem e_common (h1 : PD csz numc okT nt cl w0 p1 (digs m)) (h2 : PD csz numc okT nt cl w0 p2 (digs n)) (hl1 : (digs m).length < 10000000) (hl2 : (digs n).length < 10000000) (h3 : RD csz numc okT nt cl w0 res (digs (Nat.gcd m n))) : V csz numc okT nt cl w0 (.call 124) [p1, p2] res := by
 refine ⟨enters_of Tryz.func124 (by kernel_rfl) rfl, fun w vs hb hvs => ?_⟩
 obtain ⟨v1, _, rfl, h4, v2, _, rfl, h5, rfl⟩ := hvs
 refine (common_ok v1 v2 m n w (h1 _ _ hb h4) (h2 _ _ hb h5) hl1 hl2).mono ?_
 rintro e w' ⟨v, rfl, hv, hb'⟩
 exact ⟨_, rfl, h3 w' v hv, hb'⟩
end
end Sym
open Go Go.RowKit Go.Proofs Lim
namespace Sym
def RatP (w : World) (v : Value) (neg : Bool) (m k : Nat) : Prop := ∃ a b, v = .agg #[.bool neg, a, b] ∧ Dg w a (digs m) ∧ Dg w b (digs k)
theorem jx : ∀ t ∈ [33], t ≠ 3 := fun t h => by
 have : t = 33 := by simpa using h
 subst this
 decide
abbrev cl_make (m k : Nat) : List Cl := [ko (digs m), ko (digs k), ko (digs (Nat.gcd m k)), ko (digs (m / Nat.gcd m k)), ko (digs (m % Nat.gcd m k)), ko (digs (k / Nat.gcd m k)), ko (digs (k % Nat.gcd m k)), jm (ii ((digs (m / Nat.gcd m k)).length : Int))]
noncomputable abbrev C_make (m k : Nat) (w : World) : Ctx := mkC [1, 1, 1, 1, 1, 1, 1, 1] [false, false, false, false, false, false, false, true] [33] 36 (cl_make m k) w
def t_make (b : Bool) : List cW := [⟨.call 124, [op 0, op 1], .val (op 2)⟩, ⟨.call 100, [op 0, op 2], .tup [op 3, op 4]⟩, ⟨.call 100, [op 1, op 2], .tup [op 5, op 6]⟩, ⟨.blt .len [31] 3, [op 3], .val (op 7)⟩, ⟨.bin .gtr 3, [op 7, vp (ii 0)], .val (vp (.bool b))⟩]
theorem make_ok (neg : Bool) (x y : Value) (m k : Nat) (w : World) (hx : Dg w x (digs m)) (hy : Dg w y (digs k)) (hk : 0 < k) (hl1 : (digs m).length < 10000000) (hl2 : (digs k).length < 10000000) : Calls Tryz.prog 82 #[.bool neg, x, y] w (fun e w' => ∃ v, e = .returned v ∧ RatP w' v (neg && decide (m ≠ 0)) (m / Nat.gcd m k) (k / Nat.gcd m k) ∧ Below w.heap.size w w') := by
 have hC : (C_make m k w).Ok := cL (cb (cF jx _) (cb (cF jx _) (cb (cF jx _) (cb (cF jx _) (cb (cF jx _) (cb (cF jx _) (cb (cF jx _) (cb (cu _) cD)))))))) rfl rfl
 have hg : 0 < Nat.gcd m k := Nat.gcd_pos_of_pos_right m hk
 have hgl : (digs (Nat.gcd m k)).length < 10000000 := Nat.lt_of_le_of_lt (digs_mono (Nat.le_of_dvd hk (Nat.gcd_dvd_right m k))) hl2
 have hm0 : (0 < (digs (m / Nat.gcd m k)).length) ↔ m ≠ 0 := by
  rw [digs_pos_len]
  constructor
  · rintro h rfl
    rw [Nat.zero_div] at h
    exact h rfl
  · intro h h'
    have := Nat.div_eq_zero_iff.1 h'
    have := Nat.le_of_dvd (Nat.pos_of_ne_zero h) (Nat.gcd_dvd_left m k)
    omega
 have hT : ∀ b, decide (m ≠ 0) = b → ∀ t ∈ t_make b, t.Valid (C_make m k w) := fun b hb =>
  ca (e_common (pd rfl) (pd rfl) hl1 hl2 (rd rfl)) (ca (e_divide (ds := digs m) (es := digs (Nat.gcd m k)) (pd rfl) (pd rfl) (cJ _) (cJ _) (digs_lt _) hl1 hgl (by rw [cw]; exact hg) (by rw [cw, cw]; rfl) (by rw [cw, cw]; rfl))
   (ca (e_divide (ds := digs k) (es := digs (Nat.gcd m k)) (pd rfl) (pd rfl) (cJ _) (cJ _) (digs_lt _) hl2 hgl (by rw [cw]; exact hg) (by rw [cw, cw]; rfl) (by rw [cw, cw]; rfl))
    (ca (e_len cU (pd rfl) (rv rfl)) (ca (kw (pv rfl) jR (by rw [← hb]; congr 1; apply propext; rw [← hm0]; constructor <;> intro h <;> omega)) ce))))
 have hv : ∀ neg, jE (C_make m k w) w [vp (.bool neg), op 0, op 1] [.bool neg, x, y] := fun neg => ⟨_, _, rfl, kp.2 rfl, _, _, rfl, (op_isD rfl).2 hx, _, _, rfl, (op_isD rfl).2 hy, rfl⟩
 have fin : ∀ b w' v, (jQ.agg [.lit (.bool b), .cls 3 1, .cls 5 1]).is (C_make m k w) w' v → RatP w' v b (m / Nat.gcd m k) (k / Nat.gcd m k) := by
  rintro b w' v ⟨vs, ⟨xs, ys, rfl, rfl, xs2, ys2, rfl, ⟨f, hE, rfl⟩, xs3, ys3, rfl, ⟨g, hE', rfl⟩, h5⟩, rfl⟩
  rw [show ys3 = [] from h5]
  exact ⟨f 0, g 0, by simp [List.range_succ], hE, hE'⟩
 cases neg with
 | false =>
  refine (cM hC (hT _ rfl) 82 Tryz.f82 [vp (.bool false), op 0, op 1] (.val (.agg [.lit (.bool false), .cls 3 1, .cls 5 1])) 60 Tryz.func82 rfl rfl rfl (by kernel_rfl) _ (hv false)).mono ?_
  rintro e w' ⟨v, rfl, hx, hb⟩
  exact ⟨v, rfl, fin _ _ _ hx, hb⟩
 | true =>
  by_cases h0 : m = 0
  · refine (cM hC (hT false (decide_eq_false (by simpa using h0))) 82 Tryz.f82 [vp (.bool true), op 0, op 1] (.val (.agg [.lit (.bool false), .cls 3 1, .cls 5 1])) 60 Tryz.func82 rfl rfl rfl (by kernel_rfl) _ (hv true)).mono ?_
    rintro e w' ⟨v, rfl, hx, hb⟩
    refine ⟨v, rfl, ?_, hb⟩
    rw [show (true && decide (m ≠ 0)) = false by simp [h0]]
    exact fin _ _ _ hx
  · refine (cM hC (hT true (decide_eq_true h0)) 82 Tryz.f82 [vp (.bool true), op 0, op 1] (.val (.agg [.lit (.bool true), .cls 3 1, .cls 5 1])) 60 Tryz.func82 rfl rfl rfl (by kernel_rfl) _ (hv true)).mono ?_
    rintro e w' ⟨v, rfl, hx, hb⟩
    refine ⟨v, rfl, ?_, hb⟩
    rw [show (true && decide (m ≠ 0)) = true by simp [h0]]
    exact fin _ _ _ hx
end Sym
open Go Go.RowKit Go.Proofs Lim
namespace Sym
section
variable {csz : List Nat} {numc : List Bool} {okT : List Nat} {nt : Nat} {cl : List Cl} {w0 : World} {p1 p2 p3 : jQ} {res : RPat} {c1 c2 c3 m k : Nat} {neg s t b : Bool}
abbrev rp (c1 c2 c3 : Nat) : jQ := .agg [.cls c1 1, .cls c2 1, .cls c3 1]
theorem rp_is {w : World} {v : Value} (h1 : cl[c1]? = some (jm (.bool neg))) (h2 : cl[c2]? = some (ko (digs m))) (h3 : cl[c3]? = some (ko (digs k))) : (rp c1 c2 c3).is (mkC csz numc okT nt cl w0) w v ↔ RatP w v neg m k := by
 constructor
 · rintro ⟨vs, ⟨xs, ys, rfl, ⟨e, hE0, rfl⟩, xs2, ys2, rfl, ⟨f, hE, rfl⟩, xs3, ys3, rfl, ⟨g, hE', rfl⟩, h5⟩, rfl⟩
   rw [show ys3 = [] from h5]
   simp only [mkC, h1] at hE0
   simp only [mkC, h2] at hE
   simp only [mkC, h3] at hE'
   have hE0 : e 0 = .bool neg := hE0
   exact ⟨f 0, g 0, by simp [List.range_succ, hE0], hE, hE'⟩
 · rintro ⟨a, b, rfl, ha, hb⟩
   refine ⟨[.bool neg, a, b], ⟨[.bool neg], [a, b], rfl, ⟨fun _ => .bool neg, ?_, rfl⟩, [a], [b], rfl, ⟨fun _ => a, ?_, rfl⟩, [b], [], rfl, ⟨fun _ => b, ?_, rfl⟩, rfl⟩, rfl⟩
   · simp only [mkC, h1]; rfl
   · simp only [mkC, h2]; exact ha
   · simp only [mkC, h3]; exact hb
theorem e_neqb (h1 : PV csz numc okT nt cl w0 p1 (.bool s)) (h2 : PV csz numc okT nt cl w0 p2 (.bool t)) (h3 : RV csz numc okT nt cl w0 res (.bool (s != t))) : V csz numc okT nt cl w0 (.bin .neq 4) [p1, p2] res := by
 intro w ρ oo xs ho hb hvs
 obtain ⟨a, b, u, hop, rfl⟩ := hd_bin ho
 obtain ⟨v1, _, e1, h4, v2, _, e2, h5, e3⟩ := hvs
 obtain rfl := h1 _ _ h4
 obtain rfl := h2 _ _ h5
 subst e2
 simp only [List.map_cons, List.map_nil, List.cons.injEq] at e1
 obtain ⟨ea, eb, _⟩ := e1
 refine ⟨_, w, ?_, h3 w, Below.refl _ _⟩
 show (execOp ρ oo).run Tryz.prog w = _
 have hg : (eqGuard .neq 4 a b (.bool s) (.bool t)).run Tryz.prog w = .ok () w := rfl
 have hr : (Go.binOp .neq 4 (.bool s) (.bool t)).run Tryz.prog w = .ok (.bool (s != t)) w := by
  cases s <;> cases t <;> exact ev_run (by kernel_rfl) w
 simp only [execOp, hop, ea, eb, Sem.run_bind, hg, hr, Result.andThen_ok]
 rfl
theorem e_make (h1 : PV csz numc okT nt cl w0 p1 (.bool neg)) (h2 : PD csz numc okT nt cl w0 p2 (digs m)) (h3 : PD csz numc okT nt cl w0 p3 (digs k)) (hk : 0 < k) (hl1 : (digs m).length < 10000000) (hl2 : (digs k).length < 10000000)
 (g1 : cl[c1]? = some (jm (.bool (neg && decide (m ≠ 0))))) (g2 : cl[c2]? = some (ko (digs (m / Nat.gcd m k)))) (g3 : cl[c3]? = some (ko (digs (k / Nat.gcd m k)))) : V csz numc okT nt cl w0 (.call 82) [p1, p2, p3] (.val (rp c1 c2 c3)) := by
 refine ⟨enters_of Tryz.func82 (by kernel_rfl) rfl, fun w vs hb hvs => ?_⟩
 obtain ⟨v1, _, rfl, h4, v2, _, rfl, h5, v3, _, rfl, h6, rfl⟩ := hvs
 obtain rfl := h1 _ _ h4
 refine (make_ok neg v2 v3 m k w (h2 _ _ hb h5) (h3 _ _ hb h6) hk hl1 hl2).mono ?_
 rintro e w' ⟨v, rfl, hv, hb'⟩
 exact ⟨_, rfl, (rp_is g1 g2 g3).2 hv, hb'⟩
end
abbrev cl_mul (s t : Bool) (a b c d : Nat) : List Cl := [jm (.bool s), ko (digs a), ko (digs b), jm (.bool t), ko (digs c), ko (digs d), jm (.bool (s != t)), ko (digs (a * c)), ko (digs (b * d)), jm (.bool ((s != t) && decide (a * c ≠ 0))), ko (digs (a * c / Nat.gcd (a * c) (b * d))), ko (digs (b * d / Nat.gcd (a * c) (b * d)))]
noncomputable abbrev C_mul (s t : Bool) (a b c d : Nat) (w : World) : Ctx := mkC [1, 1, 1, 1, 1, 1, 1, 1, 1, 1, 1, 1] [true, false, false, true, false, false, true, false, false, true, false, false] [33] 21 (cl_mul s t a b c d) w
theorem clVb_ok {okT : List Nat} {B : Nat} (b : Bool) : (jm (.bool b)).Ok okT B := clV_ok rfl
def t_mul : List cW := [⟨.bin .neq 4, [op 0, op 3], .val (op 6)⟩, ⟨.call 93, [op 1, op 4], .val (op 7)⟩, ⟨.call 93, [op 2, op 5], .val (op 8)⟩, ⟨.call 82, [op 6, op 7, op 8], .val (rp 9 10 11)⟩]
theorem mul_ok (s t : Bool) (x y : Value) (a b c d : Nat) (w : World) (hx : RatP w x s a b) (hy : RatP w y t c d) (hb : 0 < b) (hd : 0 < d) (h1 : (digs a).length < 1000000) (h2 : (digs b).length < 1000000) (h3 : (digs c).length < 1000000) (h4 : (digs d).length < 1000000) (h5 : (digs (a * c)).length < 10000000) (h6 : (digs (b * d)).length < 10000000) :
 Calls Tryz.prog 30 #[x, y] w (fun e w' => ∃ v, e = .returned v ∧ RatP w' v ((s != t) && decide (a * c ≠ 0)) (a * c / Nat.gcd (a * c) (b * d)) (b * d / Nat.gcd (a * c) (b * d)) ∧ Below w.heap.size w w') := by
 have hC : (C_mul s t a b c d w).Ok := cL (cb (clVb_ok _) (cb (cF jx _) (cb (cF jx _) (cb (clVb_ok _) (cb (cF jx _) (cb (cF jx _) (cb (clVb_ok _) (cb (cF jx _) (cb (cF jx _) (cb (clVb_ok _) (cb (cF jx _) (cb (cF jx _) cD)))))))))))) rfl rfl
 have hT : ∀ t' ∈ t_mul, t'.Valid (C_mul s t a b c d w) :=
  ca (e_neqb (pv rfl) (pv rfl) (rv rfl)) (ca (e_product (ds := digs a) (es := digs c) (pd rfl) (pd rfl) (cJ _) (cJ _) (by omega) (by omega) (rd (by rw [cw, cw]; rfl))) (ca (e_product (ds := digs b) (es := digs d) (pd rfl) (pd rfl) (cJ _) (cJ _) (by omega) (by omega) (rd (by rw [cw, cw]; rfl)))
   (ca (e_make (m := a * c) (k := b * d) (pv rfl) (pd rfl) (pd rfl) (Nat.mul_pos hb hd) h5 h6 rfl rfl rfl) ce)))
 refine (cM hC hT 30 Tryz.f30 [rp 0 1 2, rp 3 4 5] (.val (rp 9 10 11)) 60 Tryz.func30 rfl rfl rfl (by kernel_rfl) [x, y] ⟨_, _, rfl, (rp_is rfl rfl rfl).2 hx, _, _, rfl, (rp_is rfl rfl rfl).2 hy, rfl⟩).mono ?_
 rintro e w' ⟨v, rfl, hv, hb'⟩
 exact ⟨v, rfl, (rp_is rfl rfl rfl).1 hv, hb'⟩
end Sym
open Go Go.RowKit Go.Proofs Lim
namespace Sym
section
variable {csz : List Nat} {numc : List Bool} {okT : List Nat} {nt : Nat} {cl : List Cl} {w0 : World} {p1 p2 p3 : jQ} {res : RPat} {ds es : List Nat} {s t b : Bool}
theorem e_sum (h1 : PD csz numc okT nt cl w0 p1 ds) (h2 : PD csz numc okT nt cl w0 p2 es) (hds : Dig ds) (hes : Dig es) (hl1 : ds.length < 100000000) (hl2 : es.length < 100000000) (h3 : RD csz numc okT nt cl w0 res (digs (cG ds + cG es))) : V csz numc okT nt cl w0 (.call 94) [p1, p2] res := by
 refine ⟨enters_of Tryz.func94 (by kernel_rfl) rfl, fun w vs hb hvs => ?_⟩
 obtain ⟨v1, _, rfl, h4, v2, _, rfl, h5, rfl⟩ := hvs
 refine (sum_ok v1 v2 ds es w (h1 _ _ hb h4) (h2 _ _ hb h5) hds hes hl1 hl2).mono ?_
 rintro e w' ⟨v, rfl, hv, hb'⟩
 exact ⟨_, rfl, h3 w' v hv, hb'⟩
theorem e_eqb (h1 : PV csz numc okT nt cl w0 p1 (.bool s)) (h2 : PV csz numc okT nt cl w0 p2 (.bool t)) (hb : (s == t) = b) : V csz numc okT nt cl w0 (.bin .eql 4) [p1, p2] (.val (vp (.bool b))) := by
 intro w ρ oo xs ho hbw hvs
 obtain ⟨a, c, u, hop, rfl⟩ := hd_bin ho
 obtain ⟨v1, _, e1, h4, v2, _, e2, h5, e3⟩ := hvs
 obtain rfl := h1 _ _ h4
 obtain rfl := h2 _ _ h5
 subst e2
 simp only [List.map_cons, List.map_nil, List.cons.injEq] at e1
 obtain ⟨ea, eb, _⟩ := e1
 subst hb
 refine ⟨_, w, ?_, vp_r _ _ _, Below.refl _ _⟩
 show (execOp ρ oo).run Tryz.prog w = _
 have hg : (eqGuard .eql 4 a c (.bool s) (.bool t)).run Tryz.prog w = .ok () w := rfl
 have hr : (Go.binOp .eql 4 (.bool s) (.bool t)).run Tryz.prog w = .ok (.bool (s == t)) w := by
  cases s <;> cases t <;> exact ev_run (by kernel_rfl) w
 simp only [execOp, hop, ea, eb, Sem.run_bind, hg, hr, Result.andThen_ok]
 rfl
end
abbrev cl_add (s t : Bool) (a b c d : Nat) (sg : Bool) (S : Nat) : List Cl := [jm (.bool s), ko (digs a), ko (digs b), jm (.bool t), ko (digs c), ko (digs d), ko (digs (a * d)), ko (digs (c * b)), ko (digs (b * d)), ko (digs S), jm (.bool (sg && decide (S ≠ 0))), ko (digs (S / Nat.gcd S (b * d))), ko (digs (b * d / Nat.gcd S (b * d))), jm (ii (cmpN (a * d) (c * b)))]
noncomputable abbrev C_add (s t : Bool) (a b c d : Nat) (sg : Bool) (S : Nat) (w : World) : Ctx := mkC [1, 1, 1, 1, 1, 1, 1, 1, 1, 1, 1, 1, 1, 1] [true, false, false, true, false, false, false, false, false, false, true, false, false, true] [33] 53 (cl_add s t a b c d sg S) w
def t_add0 (e : Bool) : List cW := [⟨.call 93, [op 1, op 5], .val (op 6)⟩, ⟨.call 93, [op 4, op 2], .val (op 7)⟩, ⟨.call 93, [op 2, op 5], .val (op 8)⟩, ⟨.bin .eql 4, [op 0, op 3], .val (vp (.bool e))⟩, ⟨.call 89, [op 6, op 7], .val (op 13)⟩]
def t_add1 : List cW := [⟨.call 94, [op 6, op 7], .val (op 9)⟩, ⟨.call 82, [op 0, op 9, op 8], .val (rp 10 11 12)⟩]
def t_add2 : List cW := [⟨.bin .geq 3, [op 13, vp (ii 0)], .val (vp (.bool true))⟩, ⟨.call 95, [op 6, op 7], .val (op 9)⟩, ⟨.call 82, [op 0, op 9, op 8], .val (rp 10 11 12)⟩]
def t_add3 : List cW := [⟨.bin .geq 3, [op 13, vp (ii 0)], .val (vp (.bool false))⟩, ⟨.call 95, [op 7, op 6], .val (op 9)⟩, ⟨.call 82, [op 3, op 9, op 8], .val (rp 10 11 12)⟩]
def addS (s t : Bool) (m n : Nat) : Bool × Nat := if s = t then (s, m + n) else if n ≤ m then (s, m - n) else (t, n - m)
theorem cmpN_ge {a b : Nat} : cmpN a b ≥ 0 ↔ b ≤ a := by unfold cmpN; split <;> (try split) <;> omega
theorem add_ok (s t : Bool) (x y : Value) (a b c d : Nat) (w : World) (hx : RatP w x s a b) (hy : RatP w y t c d) (hb : 0 < b) (hd : 0 < d) (h1 : (digs a).length < 1000000) (h2 : (digs b).length < 1000000) (h3 : (digs c).length < 1000000) (h4 : (digs d).length < 1000000) (h5 : (digs (a * d)).length < 10000000) (h6 : (digs (b * d)).length < 10000000) (h7 : (digs (c * b)).length < 10000000) (h8 : (digs (a * d + c * b)).length < 10000000)
 {sg : Bool} {S : Nat} (hS : addS s t (a * d) (c * b) = (sg, S)) :
 Calls Tryz.prog 26 #[x, y] w (fun e w' => ∃ v, e = .returned v ∧ RatP w' v (sg && decide (S ≠ 0)) (S / Nat.gcd S (b * d)) (b * d / Nat.gcd S (b * d)) ∧ Below w.heap.size w w') := by
 have hC : (C_add s t a b c d sg S w).Ok := cL (cb (clVb_ok _) (cb (cF jx _) (cb (cF jx _) (cb (clVb_ok _) (cb (cF jx _) (cb (cF jx _) (cb (cF jx _) (cb (cF jx _) (cb (cF jx _) (cb (cF jx _) (cb (clVb_ok _) (cb (cF jx _) (cb (cF jx _) (cb (cu _) cD)))))))))))))) rfl rfl
 have hT0 : ∀ e, (s == t) = e → ∀ t' ∈ t_add0 e, t'.Valid (C_add s t a b c d sg S w) := fun e he =>
  ca (e_product (ds := digs a) (es := digs d) (pd rfl) (pd rfl) (cJ _) (cJ _) (by omega) (by omega) (rd (by rw [cw, cw]; rfl))) (ca (e_product (ds := digs c) (es := digs b) (pd rfl) (pd rfl) (cJ _) (cJ _) (by omega) (by omega) (rd (by rw [cw, cw]; rfl))) (ca (e_product (ds := digs b) (es := digs d) (pd rfl) (pd rfl) (cJ _) (cJ _) (by omega) (by omega) (rd (by rw [cw, cw]; rfl)))
   (ca (e_eqb (pv rfl) (pv rfl) he) (ca (e_order (ds := digs (a * d)) (es := digs (c * b)) (pd rfl) (pd rfl) (cJ _) (cJ _) (by rw [cw, cw]; exact rv rfl)) ce))))
 have app : ∀ {l1 l2 : List cW}, (∀ t' ∈ l1, t'.Valid (C_add s t a b c d sg S w)) → (∀ t' ∈ l2, t'.Valid (C_add s t a b c d sg S w)) → ∀ t' ∈ l1 ++ l2, t'.Valid (C_add s t a b c d sg S w) := fun q1 q2 t' ht => (List.mem_append.1 ht).elim (q1 t') (q2 t')
 have hv : jE (C_add s t a b c d sg S w) w [rp 0 1 2, rp 3 4 5] [x, y] := ⟨_, _, rfl, (rp_is rfl rfl rfl).2 hx, _, _, rfl, (rp_is rfl rfl rfl).2 hy, rfl⟩
 have hbd : 0 < b * d := Nat.mul_pos hb hd
 have hSl : S ≤ a * d + c * b := by
  unfold addS at hS
  split at hS
  · injection hS with _ h; omega
  · split at hS <;> (injection hS with _ h; omega)
 have hSl : (digs S).length < 10000000 := Nat.lt_of_le_of_lt (digs_mono hSl) h8
 have fin : ∀ e w', (∃ v, e = Ending.returned v ∧ RPat.is (C_add s t a b c d sg S w) w' (.val (rp 10 11 12)) v ∧ Below w.heap.size w w') → ∃ v, e = .returned v ∧ RatP w' v (sg && decide (S ≠ 0)) (S / Nat.gcd S (b * d)) (b * d / Nat.gcd S (b * d)) ∧ Below w.heap.size w w' := by
  rintro e w' ⟨v, rfl, hv, hb'⟩
  exact ⟨v, rfl, (rp_is rfl rfl rfl).1 hv, hb'⟩
 unfold addS at hS
 by_cases hst : s = t
 · rw [if_pos hst] at hS
   injection hS with g1 g2
   subst g1 g2
   have hT : ∀ t' ∈ t_add1, t'.Valid (C_add s t a b c d s (a * d + c * b) w) := ca (e_sum (ds := digs (a * d)) (es := digs (c * b)) (pd rfl) (pd rfl) (cJ _) (cJ _) (by omega) (by omega) (rd (by rw [cw, cw]; rfl))) (ca (e_make (m := a * d + c * b) (k := b * d) (pv rfl) (pd rfl) (pd rfl) hbd hSl h6 rfl rfl rfl) ce)
   exact (cM hC (app (hT0 true (by simp [hst])) hT) 26 Tryz.f26 [rp 0 1 2, rp 3 4 5] (.val (rp 10 11 12)) 90 Tryz.func26 rfl rfl rfl (by kernel_rfl) [x, y] hv).mono fin
 · rw [if_neg hst] at hS
   by_cases hle : c * b ≤ a * d
   · rw [if_pos hle] at hS
     injection hS with g1 g2
     subst g1 g2
     have hT : ∀ t' ∈ t_add2, t'.Valid (C_add s t a b c d s (a * d - c * b) w) := ca (e_geq (pv rfl) jR (decide_eq_true (cmpN_ge.2 hle))) (ca (e_rest (ds := digs (a * d)) (es := digs (c * b)) (pd rfl) (pd rfl) (cJ _) (cJ _) (by omega) (digs_mono hle) (by rw [cw, cw]; exact hle) (rd (by rw [cw, cw]; rfl))) (ca (e_make (m := a * d - c * b) (k := b * d) (pv rfl) (pd rfl) (pd rfl) hbd hSl h6 rfl rfl rfl) ce))
     exact (cM hC (app (hT0 false (by simp [hst])) hT) 26 Tryz.f26 [rp 0 1 2, rp 3 4 5] (.val (rp 10 11 12)) 90 Tryz.func26 rfl rfl rfl (by kernel_rfl) [x, y] hv).mono fin
   · rw [if_neg hle] at hS
     injection hS with g1 g2
     subst g1 g2
     have hT : ∀ t' ∈ t_add3, t'.Valid (C_add s t a b c d t (c * b - a * d) w) := ca (e_geq (pv rfl) jR (decide_eq_false (fun h => hle (cmpN_ge.1 h)))) (ca (e_rest (ds := digs (c * b)) (es := digs (a * d)) (pd rfl) (pd rfl) (cJ _) (cJ _) (by omega) (digs_mono (by omega)) (by rw [cw, cw]; omega) (rd (by rw [cw, cw]; rfl))) (ca (e_make (m := c * b - a * d) (k := b * d) (pv rfl) (pd rfl) (pd rfl) hbd hSl h6 rfl rfl rfl) ce))
     exact (cM hC (app (hT0 false (by simp [hst])) hT) 26 Tryz.f26 [rp 0 1 2, rp 3 4 5] (.val (rp 10 11 12)) 90 Tryz.func26 rfl rfl rfl (by kernel_rfl) [x, y] hv).mono fin
end Sym
open Go Go.RowKit Go.Proofs Lim
namespace Sym
def t_div : List cW := [⟨.bin .neq 4, [op 0, op 3], .val (op 6)⟩, ⟨.call 93, [op 1, op 5], .val (op 7)⟩, ⟨.call 93, [op 2, op 4], .val (op 8)⟩, ⟨.call 82, [op 6, op 7, op 8], .val (rp 9 10 11)⟩]
abbrev cl_div (s t : Bool) (a b c d : Nat) : List Cl := [jm (.bool s), ko (digs a), ko (digs b), jm (.bool t), ko (digs c), ko (digs d), jm (.bool (s != t)), ko (digs (a * d)), ko (digs (b * c)), jm (.bool ((s != t) && decide (a * d ≠ 0))), ko (digs (a * d / Nat.gcd (a * d) (b * c))), ko (digs (b * c / Nat.gcd (a * d) (b * c)))]
noncomputable abbrev C_div (s t : Bool) (a b c d : Nat) (w : World) : Ctx := mkC [1, 1, 1, 1, 1, 1, 1, 1, 1, 1, 1, 1] [true, false, false, true, false, false, true, false, false, true, false, false] [33] 21 (cl_div s t a b c d) w
theorem div_ok (s t : Bool) (x y : Value) (a b c d : Nat) (w : World) (hx : RatP w x s a b) (hy : RatP w y t c d) (hb : 0 < b) (hc : 0 < c) (h1 : (digs a).length < 1000000) (h2 : (digs b).length < 1000000) (h3 : (digs c).length < 1000000) (h4 : (digs d).length < 1000000) (h5 : (digs (a * d)).length < 10000000) (h6 : (digs (b * c)).length < 10000000) :
 Calls Tryz.prog 36 #[x, y] w (fun e w' => ∃ v, e = .returned v ∧ RatP w' v ((s != t) && decide (a * d ≠ 0)) (a * d / Nat.gcd (a * d) (b * c)) (b * c / Nat.gcd (a * d) (b * c)) ∧ Below w.heap.size w w') := by
 have hC : (C_div s t a b c d w).Ok := cL (cb (clVb_ok _) (cb (cF jx _) (cb (cF jx _) (cb (clVb_ok _) (cb (cF jx _) (cb (cF jx _) (cb (clVb_ok _) (cb (cF jx _) (cb (cF jx _) (cb (clVb_ok _) (cb (cF jx _) (cb (cF jx _) cD)))))))))))) rfl rfl
 have hT : ∀ t' ∈ t_div, t'.Valid (C_div s t a b c d w) :=
  ca (e_neqb (pv rfl) (pv rfl) (rv rfl)) (ca (e_product (ds := digs a) (es := digs d) (pd rfl) (pd rfl) (cJ _) (cJ _) (by omega) (by omega) (rd (by rw [cw, cw]; rfl))) (ca (e_product (ds := digs b) (es := digs c) (pd rfl) (pd rfl) (cJ _) (cJ _) (by omega) (by omega) (rd (by rw [cw, cw]; rfl)))
   (ca (e_make (m := a * d) (k := b * c) (pv rfl) (pd rfl) (pd rfl) (Nat.mul_pos hb hc) h5 h6 rfl rfl rfl) ce)))
 refine (cM hC hT 36 Tryz.f36 [rp 0 1 2, rp 3 4 5] (.val (rp 9 10 11)) 60 Tryz.func36 rfl rfl rfl (by kernel_rfl) [x, y] ⟨_, _, rfl, (rp_is rfl rfl rfl).2 hx, _, _, rfl, (rp_is rfl rfl rfl).2 hy, rfl⟩).mono ?_
 rintro e w' ⟨v, rfl, hv, hb'⟩
 exact ⟨v, rfl, (rp_is rfl rfl rfl).1 hv, hb'⟩
abbrev cl_neg (a b : Nat) : List Cl := [ko (digs a), ko (digs b), jm (ii ((digs a).length : Int))]
noncomputable abbrev C_neg (nt a b : Nat) (w : World) : Ctx := mkC [1, 1, 1] [false, false, true] [33] nt (cl_neg a b) w
theorem neg_C (nt a b : Nat) (w : World) : (C_neg nt a b w).Ok := cL (cb (cF jx _) (cb (cF jx _) (cb (cu _) cD))) rfl rfl
def t_neg (b : Bool) : List cW := [⟨.blt .len [31] 3, [op 0], .val (op 2)⟩, ⟨.bin .gtr 3, [op 2, vp (ii 0)], .val (vp (.bool b))⟩]
theorem rl_is {nt a b : Nat} {w0 w : World} {v : Value} {s : Bool} : (jQ.agg [.lit (.bool s), .cls 0 1, .cls 1 1]).is (C_neg nt a b w0) w v ↔ RatP w v s a b := by
 constructor
 · rintro ⟨vs, ⟨xs, ys, rfl, rfl, xs2, ys2, rfl, ⟨f, hE, rfl⟩, xs3, ys3, rfl, ⟨g, hE', rfl⟩, h5⟩, rfl⟩
   rw [show ys3 = [] from h5]
   exact ⟨f 0, g 0, by simp [List.range_succ], hE, hE'⟩
 · rintro ⟨x, y, rfl, ha, hb⟩
   exact ⟨[.bool s, x, y], ⟨[.bool s], [x, y], rfl, rfl, [x], [y], rfl, ⟨fun _ => x, ha, rfl⟩, [y], [], rfl, ⟨fun _ => y, hb, rfl⟩, rfl⟩, rfl⟩
theorem neg_ok (s : Bool) (x : Value) (a b : Nat) (w : World) (hx : RatP w x s a b) : Calls Tryz.prog 38 #[x] w (fun e w' => ∃ v, e = .returned v ∧ RatP w' v (!s && decide (a ≠ 0)) a b ∧ Below w.heap.size w w') := by
 have hT : ∀ e, decide (a ≠ 0) = e → ∀ t ∈ t_neg e, t.Valid (C_neg 17 a b w) := fun e he => ca (e_len cU (pd rfl) (rv rfl)) (ca (kw (pv rfl) jR (by rw [← he]; congr 1; apply propext; rw [← digs_pos_len]; constructor <;> intro h <;> omega)) ce)
 have hv : ∀ s, RatP w x s a b → jE (C_neg 17 a b w) w [.agg [.lit (.bool s), .cls 0 1, .cls 1 1]] [x] := fun s h => ⟨_, _, rfl, rl_is.2 h, rfl⟩
 cases s with
 | true =>
  refine (cM (neg_C 17 a b w) (hT _ rfl) 38 Tryz.f38 [.agg [.lit (.bool true), .cls 0 1, .cls 1 1]] (.val (.agg [.lit (.bool false), .cls 0 1, .cls 1 1])) 60 Tryz.func38 rfl rfl rfl (by kernel_rfl) [x] (hv _ hx)).mono ?_
  rintro e w' ⟨v, rfl, hv, hb'⟩
  exact ⟨v, rfl, rl_is.1 hv, hb'⟩
 | false =>
  by_cases h0 : a = 0
  · refine (cM (neg_C 17 a b w) (hT false (by simp [h0])) 38 Tryz.f38 [.agg [.lit (.bool false), .cls 0 1, .cls 1 1]] (.val (.agg [.lit (.bool false), .cls 0 1, .cls 1 1])) 60 Tryz.func38 rfl rfl rfl (by kernel_rfl) [x] (hv _ hx)).mono ?_
    rintro e w' ⟨v, rfl, hv, hb'⟩
    refine ⟨v, rfl, ?_, hb'⟩
    rw [show (!false && decide (a ≠ 0)) = false by simp [h0]]
    exact rl_is.1 hv
  · refine (cM (neg_C 17 a b w) (hT true (by simp [h0])) 38 Tryz.f38 [.agg [.lit (.bool false), .cls 0 1, .cls 1 1]] (.val (.agg [.lit (.bool true), .cls 0 1, .cls 1 1])) 60 Tryz.func38 rfl rfl rfl (by kernel_rfl) [x] (hv _ hx)).mono ?_
    rintro e w' ⟨v, rfl, hv, hb'⟩
    refine ⟨v, rfl, ?_, hb'⟩
    rw [show (!false && decide (a ≠ 0)) = true by simp [h0]]
    exact rl_is.1 hv
end Sym
open Go Go.RowKit Go.Proofs Lim
namespace Sym
def RQ (w : World) (v : Value) (r : Rat) : Prop := RatP w v (decide (r.num < 0)) r.num.natAbs r.den
theorem RatP.below {w w' : World} {v : Value} {s : Bool} {m k B : Nat} (h : RatP w v s m k) (hb : Below B w w') (hB : w.heap.size ≤ B) : RatP w' v s m k := by
 obtain ⟨a, b, e, h1, h2⟩ := h
 exact ⟨a, b, e, h1.below hb hB, h2.below hb hB⟩
theorem RQ.below {w w' : World} {v : Value} {r : Rat} {B : Nat} (h : RQ w v r) (hb : Below B w w') (hB : w.heap.size ≤ B) : RQ w' v r := RatP.below h hb hB
theorem mk_parts (neg : Bool) {m k : Nat} (hk : 0 < k) : (mkRat (sgn neg m) k).num.natAbs = m / Nat.gcd m k ∧ (mkRat (sgn neg m) k).den = k / Nat.gcd m k ∧ decide ((mkRat (sgn neg m) k).num < 0) = (neg && decide (m ≠ 0)) := by
 have hk0 : k ≠ 0 := by omega
 rw [← Rat.normalize_eq_mkRat hk0, Rat.normalize_eq]
 have hg : (sgn neg m).natAbs.gcd k = Nat.gcd m k := by rw [sgn_abs]
 have hgp : 0 < Nat.gcd m k := Nat.gcd_pos_of_pos_right m hk
 obtain ⟨c, hc⟩ := Nat.gcd_dvd_left m k
 have hcd : m / Nat.gcd m k = c := by
  conv => lhs; lhs; rw [hc]
  exact Nat.mul_div_cancel_left c hgp
 have hz : sgn neg m / ((Nat.gcd m k : Nat) : Int) = sgn neg c := by
  have : sgn neg m = ((Nat.gcd m k : Nat) : Int) * sgn neg c := by
   unfold sgn
   split
   · rw [Int.mul_neg, ← Int.natCast_mul, ← hc]
   · rw [← Int.natCast_mul, ← hc]
  rw [this, Int.mul_ediv_cancel_left _ (by omega)]
 have hm0 : m = 0 ↔ c = 0 := by
  constructor
  · intro h
    have : Nat.gcd m k * c = 0 := by rw [← hc]; exact h
    rcases Nat.mul_eq_zero.1 this with h | h
    · omega
    · exact h
  · intro h
    rw [hc, h, Nat.mul_zero]
 simp only [hg, hz, sgn_abs, hcd, sgn_neg]
 refine ⟨trivial, trivial, ?_⟩
 have : decide (m ≠ 0) = !decide (c = 0) := by
  by_cases h : c = 0
  · simp [h, hm0.2 h]
  · have h' : m ≠ 0 := fun e => h (hm0.1 e)
    simp [h, h']
 rw [this]
theorem RatP.rq {w : World} {v : Value} {neg : Bool} {m k : Nat} {r : Rat} (hk : 0 < k) (h : RatP w v (neg && decide (m ≠ 0)) (m / Nat.gcd m k) (k / Nat.gcd m k)) (hr : r = mkRat (sgn neg m) k) : RQ w v r := by
 obtain ⟨h1, h2, h3⟩ := mk_parts neg (m := m) hk
 subst hr
 show RatP w v _ _ _
 rw [h1, h2, h3]
 exact h
def RNew (w : World) (r : Rat) (e : Ending) (w' : World) : Prop := ∃ v, e = .returned v ∧ RQ w' v r ∧ Below w.heap.size w w'
theorem B_le5 : B ≤ 10000 ^ 5 := by decide
theorem jl {n k : Nat} (h : n < B ^ k) : (digs n).length ≤ 5 * k := by
 refine digs_len _ _ (Nat.lt_of_lt_of_le h ?_)
 rw [Nat.pow_mul]
 exact Nat.pow_le_pow_left B_le5 k
theorem pow_mul_lt {a b k j : Nat} (h1 : a < B ^ k) (h2 : b < B ^ j) : a * b < B ^ (k + j) := by
 rw [Nat.pow_add]
 exact Nat.mul_lt_mul_of_lt_of_lt h1 h2
theorem pow_add_lt {a b k : Nat} (h1 : a < B ^ k) (h2 : b < B ^ k) : a + b < B ^ (k + 1) := by
 rw [Nat.pow_succ]
 have : B ^ k * 2 ≤ B ^ k * B := Nat.mul_le_mul_left _ (by decide)
 omega
theorem sgn_mul (a b : Bool) (x y : Nat) : sgn (a != b) (x * y) = sgn a x * sgn b y := by
 unfold sgn
 cases a <;> cases b <;> simp [Int.natCast_mul, Int.neg_mul, Int.mul_neg]
theorem rmul_q (x y : Value) (r s : Rat) (k : Nat) (w : World) (hx : RQ w x r) (hy : RQ w y s) (z1 : cB r k) (z2 : cB s k) (hk : k ≤ 100000) : Calls Tryz.prog 30 #[x, y] w (RNew w (r * s)) := by
 have l1 := jl z1.1
 have l2 := jl z1.2
 have l3 := jl z2.1
 have l4 := jl z2.2
 have l5 := jl (pow_mul_lt z1.1 z2.1)
 have l6 := jl (pow_mul_lt z1.2 z2.2)
 have hd := Nat.mul_pos r.den_pos s.den_pos
 refine (mul_ok _ _ x y _ _ _ _ w hx hy r.den_pos s.den_pos (by omega) (by omega) (by omega) (by omega) (by omega) (by omega)).mono ?_
 rintro e w' ⟨v, rfl, hv, hb⟩
 refine ⟨v, rfl, RatP.rq hd hv ?_, hb⟩
 rw [sgn_mul, sgn_self, sgn_self, Rat.mul_def']
theorem div_field (rn rd sn sd N A : Rat) (hs : sn ≠ 0) (hd : sd ≠ 0) (hd' : rd ≠ 0) (hA : A = sn ∨ A = -sn) (h : N * A = rn * sd * sn) : rn / rd / (sn / sd) = N / (rd * A) := by
 have hq : sn / sd ≠ 0 := by grind
 have hn : rd * A ≠ 0 := by rcases hA with rfl | rfl <;> grind
 rcases hA with rfl | rfl
 · have : N = rn * sd := by grind
   grind
 · have : N = -(rn * sd) := by grind
   grind
theorem div_mk (r s : Rat) (h0 : s.num ≠ 0) : r / s = mkRat (sgn (decide (r.num < 0) != decide (s.num < 0)) (r.num.natAbs * s.den)) (r.den * s.num.natAbs) := by
 have h1 : sgn (decide (r.num < 0) != decide (s.num < 0)) (r.num.natAbs * s.den) * (s.num.natAbs : Int) = r.num * s.den * s.num := by
  have e1 : r.num * s.den * s.num = (r.num * s.num) * s.den := by rw [Int.mul_assoc, Int.mul_comm (s.den : Int), ← Int.mul_assoc]
  rw [e1]
  have h2 := sgn_mul (decide (r.num < 0)) (decide (s.num < 0)) (r.num.natAbs * s.den) s.num.natAbs
  rw [sgn_self] at h2
  have h3 : sgn (decide (r.num < 0) != decide (s.num < 0)) (r.num.natAbs * s.den * s.num.natAbs) = sgn (decide (r.num < 0) != decide (s.num < 0)) (r.num.natAbs * s.den) * (s.num.natAbs : Int) := by
   unfold sgn
   split <;> simp [Int.natCast_mul, Int.neg_mul]
  rw [← h3, h2]
  have h4 : sgn (decide (r.num < 0)) (r.num.natAbs * s.den) = r.num * s.den := by
   have : sgn (decide (r.num < 0)) (r.num.natAbs * s.den) = sgn (decide (r.num < 0)) r.num.natAbs * (s.den : Int) := by
    unfold sgn
    split <;> simp [Int.natCast_mul, Int.neg_mul]
   rw [this, sgn_self]
  rw [h4, Int.mul_assoc, Int.mul_comm (s.den : Int), ← Int.mul_assoc]
 have hs : (s.num : Rat) ≠ 0 := by
  intro h
  exact h0 (by exact_mod_cast h)
 have hd : ((s.den : Nat) : Rat) ≠ 0 := by
  intro h
  exact s.den_nz (by exact_mod_cast h)
 have hd' : ((r.den : Nat) : Rat) ≠ 0 := by
  intro h
  exact r.den_nz (by exact_mod_cast h)
 have hn : ((s.num.natAbs : Nat) : Rat) ≠ 0 := by
  intro h
  have : s.num.natAbs = 0 := by exact_mod_cast h
  omega
 have er : (r.num : Rat) / ((r.den : Nat) : Rat) = r := by rw [← Rat.mkRat_eq_div, Rat.mkRat_self]
 have es : (s.num : Rat) / ((s.den : Nat) : Rat) = s := by rw [← Rat.mkRat_eq_div, Rat.mkRat_self]
 rw [Rat.mkRat_eq_div]
 generalize sgn (decide (r.num < 0) != decide (s.num < 0)) (r.num.natAbs * s.den) = N at *
 have h1' : (N : Rat) * ((s.num.natAbs : Nat) : Rat) = (r.num : Rat) * ((s.den : Nat) : Rat) * (s.num : Rat) := by exact_mod_cast h1
 have e2 : (((r.den * s.num.natAbs : Nat)) : Rat) = ((r.den : Nat) : Rat) * ((s.num.natAbs : Nat) : Rat) := by simp
 rw [e2]
 have hA : ((s.num.natAbs : Nat) : Rat) = (s.num : Rat) ∨ ((s.num.natAbs : Nat) : Rat) = -(s.num : Rat) := by
  rcases Int.natAbs_eq s.num with h | h
  · left
    have h : ((s.num : Int) : Rat) = (((s.num.natAbs : Nat) : Int) : Rat) := by rw [← h]
    rw [h]; rfl
  · right
    have h : ((s.num : Int) : Rat) = ((-((s.num.natAbs : Nat) : Int) : Int) : Rat) := by rw [← h]
    rw [h]; simp; rfl
 have := div_field _ _ _ _ (N : Rat) _ hs hd hd' hA h1'
 rw [er, es] at this
 exact this
end Sym
end Go.Proofs.YtccabfblgjcboaaGreatDoor
