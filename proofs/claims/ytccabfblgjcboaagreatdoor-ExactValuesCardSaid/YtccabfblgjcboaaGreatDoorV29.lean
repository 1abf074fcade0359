/- ExactValues: for all arguments the call returns true: a linear form of any numbers of a box lies in its span, whose ends are taken where each number is at an end, and so it is with a quadratic. No condition. -/
import Derived.Test.YtccabfblgjcboaaGreatDoorV28
set_option linter.all false

namespace Go.Proofs.YtccabfblgjcboaaGreatDoor
open Go Go.RowKit Go.Proofs Lim
namespace Sym
def fB (v : Nat → Rat) (y : Rat) : Nat → Bool
 | 0 => false
 | i + 1 => fB v y i || decide (v i = y)
theorem fB_true {v : Nat → Rat} {y : Rat} {i : Nat} (h : v i = y) : ∀ {n : Nat}, i < n → fB v y n = true
 | n + 1, hn => by
  rcases Nat.lt_or_ge i n with hl | hg
  · show (fB v y n || _) = true
    rw [fB_true h hl]; rfl
  · obtain rfl : i = n := by omega
    show (_ || decide (v i = y)) = true
    rw [decide_eq_true h, Bool.or_true]
abbrev xAt (xs : List Rat) (i : Nat) : Rat := xs.getD i 0
abbrev sl1 (k : Nat) : Value := .slice (some ⟨k, 0, none⟩) 1 1
abbrev clw (z7 z9 : Value) (k l : Nat) (a b c x y z : Rat) (xs : List Rat) (i : Nat) : List Cl := [clW z7, clW z9, clW (cT (sl1 k) 0), clW (cT (sl1 l) 0), clV (ii (i : Int)), clV (ii (xs.length : Int)), clW (cT z7 (0 * 4)), clW (cT z7 (1 * 4)), clW (cT z7 (2 * 4)), clW (cT z9 (i * 4)),
 cQ a 4, cQ b 4, cQ c 4, cQ (xAt xs i) 13, cQ (a * xAt xs i) 17, cQ (a * xAt xs i + b) 22, cQ ((a * xAt xs i + b) * xAt xs i) 35, cQ (cw a b c (xAt xs i)) 40, cQ y 67, cQ z 67, clW (cT (sl1 l) (0 + 4)), clV (ii ((i + 1 : Nat) : Int)),
 cQ x 70, cQ (a * x) 74, cQ (a * x + b) 79, cQ ((a * x + b) * x) 149, cQ (cw a b c x) 154]
noncomputable abbrev Cw (z7 z9 : Value) (k l : Nat) (a b c x y z : Rat) (xs : List Rat) (i : Nat) (w : World) : Ctx := mkC [1, 1, 1, 1, 1, 1, 1, 1, 1, 1, 4, 4, 4, 4, 4, 4, 4, 4, 4, 4, 1, 1, 4, 4, 4, 4, 4] [false, false, false, false, true, true, false, false, false, false, true, true, true, true, true, true, true, true, true, true, false, true, true, true, true, true, true] okS 299 (clw z7 z9 k l a b c x y z xs i) w
def tw1 (b : Bool) : List Ent := [⟨.blt .len [91] intT, [op 1], .val (op 5)⟩, ⟨.bin .lss intT, [op 4, op 5], .val (vp (.bool b))⟩]
def tw2 : List Ent := [⟨.ix 91, [op 0, vp (ii 0)], .val (op 6)⟩, ⟨.ix 91, [op 0, vp (ii 1)], .val (op 7)⟩, ⟨.ix 91, [op 0, vp (ii 2)], .val (op 8)⟩, ⟨.ld 26, [op 6], .val (qp 10)⟩, ⟨.ld 26, [op 7], .val (qp 11)⟩, ⟨.ld 26, [op 8], .val (qp 12)⟩]
def tw3 (d e : Bool) : List Ent := [⟨.ix 91, [op 1, op 4], .val (op 9)⟩, ⟨.ld 26, [op 9], .val (qp 13)⟩, ⟨.call 29, [qp 10, qp 13], .val (qp 14)⟩, ⟨.call 25, [qp 14, qp 11], .val (qp 15)⟩, ⟨.call 29, [qp 15, qp 13], .val (qp 16)⟩, ⟨.call 25, [qp 16, qp 12], .val (qp 17)⟩,
 ⟨.fa 66 0, [op 3], .val (op 3)⟩, ⟨.fa 66 1, [op 3], .val (op 20)⟩, ⟨.ld 26, [op 3], .val (qp 18)⟩, ⟨.ld 26, [op 20], .val (qp 19)⟩, ⟨.call 74, [qp 17, qp 18], .val (vp (.bool d))⟩, ⟨.call 74, [qp 17, qp 19], .val (vp (.bool e))⟩, ⟨.bin .add intT, [op 4, vp (ii 1)], .val (op 21)⟩]
def tw4 : List Ent := [⟨.ld 66, [op 3], .val (sp 18 19)⟩, ⟨.ld 26, [op 2], .val (qp 22)⟩, ⟨.call 29, [qp 10, qp 22], .val (qp 23)⟩, ⟨.call 25, [qp 23, qp 11], .val (qp 24)⟩, ⟨.call 29, [qp 24, qp 22], .val (qp 25)⟩, ⟨.call 25, [qp 25, qp 12], .val (qp 26)⟩, ⟨.call 56, [sp 18 19, qp 26], .val (vp (.bool true))⟩, ⟨.call 10, [], .val (vp (.bool true))⟩]
noncomputable def y8_lv : Code := jc 12 b_lv
noncomputable def x2_lv : Code := seqL (jc 1 y8_lv)
noncomputable def l2_lv : Code := inner (inner (seqR x2_lv))
abbrev Iw (p q : Bool) : List Item := [.val 7 (op 0), .val 17 (op 2), .val 18 (op 3), .val 19 (op 1), .val 22 (vp (.bool p)), .val 23 (vp (.bool q)), .val 24 (op 4)]
abbrev Iw' (p q : Bool) : List Item := [.val 7 (op 0), .val 17 (op 2), .val 18 (op 3), .val 19 (op 1), .val 22 (vp (.bool p)), .val 23 (vp (.bool q)), .val 24 (op 21)]
section
variable {z7 z9 : Value} {k l : Nat} {a b c x y z : Rat} {xs : List Rat} {i : Nat} {w w0 w1 : World} {cs : List Rat} {t : Act}
theorem cw_ok (h7 : z7.oneCell' = true) (h9 : z9.oneCell' = true) : (Cw z7 z9 k l a b c x y z xs i w).Ok := by
 have q := fun r k => clQ_ok (okT := okS) (B := w.heap.size) qrsT.1 r k
 have p := fun v n => cZ (okT := okS) (B := w.heap.size) (ptrAt_one v n)
 exact mkC_ok (ci (cZ h7) <| ci (cZ h9) <| ci (p _ _) <| ci (p _ _) <| ci (ju _) <| ci (ju _) <| ci (p _ _) <| ci (p _ _) <| ci (p _ _) <| ci (p _ _) <| ci (q _ _) <| ci (q _ _) <| ci (q _ _) <| ci (q _ _) <| ci (q _ _) <| ci (q _ _) <| ci (q _ _) <| ci (q _ _) <| ci (q _ _) <| ci (q _ _) <|
  ci (p _ _) <| ci (ju _) <| ci (q _ _) <| ci (q _ _) <| ci (q _ _) <| ci (q _ _) <| ci (q _ _) oks_nil) rfl rfl
theorem tw1_ok {d : Bool} (L9 : Ls 4 w z9 (xs.map (elQ 13))) (hd : decide ((i : Int) < (xs.length : Int)) = d) : ∀ t ∈ tw1 d, t.Valid (Cw z7 z9 k l a b c x y z xs i w) :=
 cg (e_lenZ und_qs (pzW rfl L9) (by rw [List.length_map]; exact rv rfl)) (cg (e_lss (pv rfl) (pv rfl) hd) cA)
theorem tw2_ok (L7 : Ls 4 w z7 (cs.map (elQ 4))) (hn : 3 ≤ cs.length) (ha : cs.getD 0 0 = a) (hb : cs.getD 1 0 = b) (hc : cs.getD 2 0 = c) : ∀ t ∈ tw2, t.Valid (Cw z7 z9 k l a b c x y z xs i w) := by
 have lc : (cs.map (elQ 4)).length = cs.length := by simp
 have e0 : (cs.map (elQ 4))[0]? = some ([] ++ [cQ a 4] ++ []) := by rw [← ha]; exact jg (elQ 4) 0 (by omega)
 have e1 : (cs.map (elQ 4))[1]? = some ([] ++ [cQ b 4] ++ []) := by rw [← hb]; exact jg (elQ 4) 0 (by omega)
 have e2 : (cs.map (elQ 4))[2]? = some ([] ++ [cQ c 4] ++ []) := by rw [← hc]; exact jg (elQ 4) 0 (by omega)
 exact cg (e_ixZ (n := 4) (i := 0) und_qs siz_qs (pvW rfl) (pzW rfl L7) pvl (by omega) (rvW rfl)) <| cg (e_ixZ (n := 4) (i := 1) und_qs siz_qs (pvW rfl) (pzW rfl L7) pvl (by omega) (rvW rfl)) <| cg (e_ixZ (n := 4) (i := 2) und_qs siz_qs (pvW rfl) (pzW rfl L7) pvl (by omega) (rvW rfl)) <|
  cg (e_ldZ (n := 4) (i := 0) agg_q siz_q [] [] (pvW rfl) (fun w hb => L7.below hb) e0 ⟨_, _, rfl, rfl, rfl, rfl⟩ rfl) <| cg (e_ldZ (n := 4) (i := 1) agg_q siz_q [] [] (pvW rfl) (fun w hb => L7.below hb) e1 ⟨_, _, rfl, rfl, rfl, rfl⟩ rfl) <| cg (e_ldZ (n := 4) (i := 2) agg_q siz_q [] [] (pvW rfl) (fun w hb => L7.below hb) e2 ⟨_, _, rfl, rfl, rfl, rfl⟩ rfl) cA
theorem tw3_ok {d e : Bool} (hG : Gr w) (L9 : Ls 4 w z9 (xs.map (elQ 13))) (L18 : Ls 8 w (sl1 l) [[cQ y 67, cQ z 67]]) (hi : i < xs.length) (hx3 : xs.length ≤ 3) (hd : decide (cw a b c (xAt xs i) = y) = d) (he : decide (cw a b c (xAt xs i) = z) = e) : ∀ t ∈ tw3 d e, t.Valid (Cw z7 z9 k l a b c x y z xs i w) := by
 have lx : (xs.map (elQ 13)).length = xs.length := by simp
 have ex : (xs.map (elQ 13))[i]? = some ([] ++ [cQ (xAt xs i) 13] ++ []) := jg (elQ 13) 0 hi
 have hreal : ∃ a n c, sl1 l = .slice (some ⟨a, n, none⟩) [[cQ y 67, cQ z 67]].length c := ⟨l, 0, 1, rfl⟩
 exact cg (e_ixZ (n := 4) und_qs siz_qs (pvW rfl) (pzW rfl L9) (pv rfl) (by rw [lx]; exact hi) (rvW rfl)) <| cg (e_ldZ (n := 4) (i := i) agg_q siz_q [] [] (pvW rfl) (fun w hb => L9.below hb) ex ⟨_, _, rfl, rfl, rfl, rfl⟩ rfl) <|
  cg (e_times hG (pq rfl) (pq rfl) rfl rfl) <| cg (e_plus hG (pq rfl) (pq rfl) rfl rfl) <| cg (e_times hG (pq rfl) (pq rfl) rfl rfl) <| cg (e_plus hG (pq rfl) (pq rfl) rfl rfl) <|
  cg (e_faZ (es := [[cQ y 67, cQ z 67]]) (off := 0) (m := 3) (by kernel_rfl) (pvW rfl) hreal (rvW rfl)) <| cg (e_faZ (es := [[cQ y 67, cQ z 67]]) (off := 4) (m := 3) (by kernel_rfl) (pvW rfl) hreal (rvW rfl)) <|
  cg (e_ldZ (n := 8) (i := 0) (es := [[cQ y 67, cQ z 67]]) agg_q siz_q [] [cQ z 67] (pvW (x := cT (sl1 l) 0) rfl) (fun w hb => L18.below hb) rfl ⟨_, _, rfl, rfl, rfl, rfl⟩ rfl) <| cg (e_ldZ (n := 8) (i := 0) (es := [[cQ y 67, cQ z 67]]) agg_q siz_q [cQ y 67] [] (pvW (x := cT (sl1 l) (0 + 4)) rfl) (fun w hb => L18.below hb) rfl ⟨_, _, rfl, rfl, rfl, rfl⟩ rfl) <|
  cg (e_equal (pq rfl) (pq rfl) rfl hd) <| cg (e_equal (pq rfl) (pq rfl) rfl he) <| cg (e_add (by omega) (pv rfl) pvl (rv rfl) (by omega)) cA
theorem tw4_ok (hG : Gr w) (L17 : Ls 4 w (sl1 k) [[cQ x 70]]) (L18 : Ls 8 w (sl1 l) [[cQ y 67, cQ z 67]]) (hh : jv y z (cw a b c x) = true) : ∀ t ∈ tw4, t.Valid (Cw z7 z9 k l a b c x y z xs i w) :=
 cg (e_ldZ (n := 8) (i := 0) (es := [[cQ y 67, cQ z 67]]) agg_sp siz_sp [] [] (pvW (x := cT (sl1 l) 0) rfl) (fun w hb => L18.below hb) rfl ⟨_, _, rfl, rfl, rfl, _, _, rfl, rfl, rfl, rfl⟩ rfl) <| cg (e_ldZ (n := 4) (i := 0) (es := [[cQ x 70]]) agg_q siz_q [] [] (pvW (x := cT (sl1 k) 0) rfl) (fun w hb => L17.below hb) rfl ⟨_, _, rfl, rfl, rfl, rfl⟩ rfl) <|
 cg (e_times hG (pq rfl) (pq rfl) rfl rfl) <| cg (e_plus hG (pq rfl) (pq rfl) rfl rfl) <| cg (e_times hG (pq rfl) (pq rfl) rfl rfl) <| cg (e_plus hG (pq rfl) (pq rfl) rfl rfl) <| cg (e_has (ps rfl rfl) (pq rfl) rfl hh) <| cg (e_known hG) cA
noncomputable abbrev Sw : Stat := ⟨Tryz.prog, [1, 1, 1, 1, 1, 1, 1, 1, 1, 1, 4, 4, 4, 4, 4, 4, 4, 4, 4, 4, 1, 1, 4, 4, 4, 4, 4], [false, false, false, false, true, true, false, false, false, false, true, true, true, true, true, true, true, true, true, true, false, true, true, true, true, true, true], okS, 299⟩
set_option maxRecDepth 100000 in
theorem seg_round (p q d e : Bool) : segB Sw (tw1 true ++ tw2 ++ tw3 d e) 40 l2_lv (Iw p q) .normal (Iw' (p || d) (q || e)) = true := by
 cases p <;> cases q <;> cases d <;> cases e <;> kernel_rfl
set_option maxRecDepth 100000 in
theorem seg_out (p q : Bool) : segB Sw (tw1 false) 40 l2_lv (Iw p q) (.exit 2) (Iw p q) = true := by
 cases p <;> cases q <;> kernel_rfl
set_option maxRecDepth 100000 in
set_option maxHeartbeats 1000000 in
theorem tailw (hG : Gr w) (hw : Below w0.heap.size w0 w) (L7 : Ls 4 w z7 (cs.map (elQ 4))) (L9 : Ls 4 w z9 (xs.map (elQ 13))) (L17 : Ls 4 w (sl1 k) [[cQ x 70]]) (L18 : Ls 8 w (sl1 l) [[cQ y 67, cQ z 67]])
 (hn : 3 ≤ cs.length) (ha : cs.getD 0 0 = a) (hb : cs.getD 1 0 = b) (hc : cs.getD 2 0 = c) (hx3 : xs.length ≤ 3) (hh : jv y z (cw a b c x) = true) {u v : Nat} (hu : u < xs.length) (hv : v < xs.length) (eu : cw a b c (xAt xs u) = y) (ev : cw a b c (xAt xs v) = z)
 (hA : At (Cw z7 z9 k l a b c x y z xs 0 w) [.val 7 (op 0), .val 17 (op 2), .val 18 (op 3), .val 19 (op 1)] t w1) : y8_lv.wp Tryz.prog (bodyPost Tryz.prog Tryz.f9 (LF w0)) t w1 := by
 have hC := fun i => cw_ok (k := k) (l := l) (a := a) (b := b) (c := c) (x := x) (y := y) (z := z) (xs := xs) (i := i) (w := w) L7.one L9.one
 refine front_is (hC 0) (T := []) cA 30 1 [.val 7 (op 0), .val 17 (op 2), .val 18 (op 3), .val 19 (op 1), .val 22 (vp (.bool false)), .val 23 (vp (.bool false))] (by kernel_rfl) hA (fun t w1 hA => ?_)
 show (Code.seq (Code.seq (seqL x2_lv) (.block 2 (.loop l2_lv))) (jc 2 y8_lv)).wp Tryz.prog _ _ _
 refine wp_seq (wp_seq (jf (hC 0) (T := []) cA (x := .normal) (n := 30) (post := [.val 7 (op 0), .val 17 (op 2), .val 18 (op 3), .val 19 (op 1), .val 22 (vp (.bool false)), .val 23 (vp (.bool false)), .val 24 (vp (ii 0))]) (by kernel_rfl) hA (fun t w1 hA => ?_)))
 have hA := hA.turn (is' := Iw false false) (fun ⟨g1, g2, g3, g4, g5, g6, ⟨s, g7, g8⟩, g9⟩ => ⟨g1, g2, g3, g4, g5, g6, ⟨s, g7, (op_is rfl).2 (vp_is.1 g8)⟩, g9⟩)
 refine while_is (Θ := Nat) (fun i t w1 => i ≤ xs.length ∧ At (Cw z7 z9 k l a b c x y z xs i w) (Iw (fB (fun i => cw a b c (xAt xs i)) y i) (fB (fun i => cw a b c (xAt xs i)) z i)) t w1) (fun i => xs.length - i) ?_ 0 ⟨Nat.zero_le _, hA⟩
 clear hA
 rintro i t w1 ⟨hi, hA⟩
 rcases Nat.lt_or_ge i xs.length with hlt | hge
 · refine jf (hC i) (t_app (t_app (tw1_ok L9 (decide_eq_true (by omega))) (tw2_ok L7 hn ha hb hc)) (tw3_ok hG L9 L18 hlt hx3 rfl rfl)) (x := .normal) (n := 40) (seg_round _ _ _ _) hA (fun t w1 hA => ⟨i + 1, ⟨hlt, ?_⟩, by show xs.length - (i + 1) < xs.length - i; omega⟩)
   exact at_reL hA [(0, 0), (1, 1), (2, 2), (3, 3), (4, 21)] (cH rfl <| cH rfl <| cH rfl <| cH rfl <| cH rfl prs_nil) rfl rfl (fun k hk => hk)
 · obtain rfl : i = xs.length := by omega
   rw [fB_true eu hu, fB_true ev hv] at hA
   refine jf (hC _) (tw1_ok L9 (decide_eq_false (by omega))) (x := .exit 2) (n := 40) (seg_out true true) hA (fun t w1 hA => ?_)
   show (jc 2 y8_lv).wp Tryz.prog (bodyPost Tryz.prog Tryz.f9 (LF w0)) t w1
   refine jf (hC _) (t_app (tw2_ok L7 hn ha hb hc) (tw4_ok hG L17 L18 hh)) (x := .ret) (n := 40) (post := [.val 6 (vp (.bool true))]) (by kernel_rfl) hA (fun t w1 hA => ?_)
   exact (at_ret rfl hA (fun v hv => ⟨by rw [vp_is.1 hv], hw.trans (hA.below.mono hw.size)⟩) : bodyPost Tryz.prog Tryz.f9 (LF w0) .ret t w1)
end
end Sym
open Go Go.RowKit Go.Proofs Lim
namespace Sym
theorem box_ls {w : World} {k t n : Nat} {vs : List Value} {e : List Cl} (h : w.heap[k]? = some (.cells vs.toArray t (0, 0))) (he : jp w e vs) (hs : ∀ x ∈ e, x.St) (hn : elN e = n) : Ls n w (sl1 k) [e] := by
 refine ⟨fun e' he' => ?_, some ⟨k, 0, none⟩, 1, rfl, Nat.le_refl _, by decide, fun _ => ⟨k, 0, rfl, fun i e' hi => ?_⟩⟩
 · obtain rfl : e' = e := by simpa using he'
   exact hs
 · have hil := (List.getElem?_eq_some_iff.1 hi).1
   obtain rfl : i = 0 := by
    have : i < 1 := hil
    omega
   obtain rfl : e' = e := by simpa using hi.symm
   exact ⟨vs, he.length.trans hn, fun j u hj => by simpa [World.cell?, h] using hj, he⟩
theorem jr.two {w : World} {B t n k : Nat} {us vs : List Value} {d e : List Cl} (h : w.heap[k]? = some (.cells (us ++ vs).toArray t (0, 0))) (hB : B ≤ k) (hd : jp w d us) (he : jp w e vs) (sd : ∀ x ∈ d, x.St) (se : ∀ x ∈ e, x.St) (ld : us.length = n) (le : vs.length = n) (hn : 0 < n) : jr B t n w (.slice (some ⟨k, 0, none⟩) 2 2) [d, e] := by
 refine ⟨fun e' he' => ?_, fun g hg cs hc x hx => ?_, us ++ vs, ⟨by simp; omega, .inr ⟨k, 2, _, rfl, hB, h, Nat.le_refl _, by decide, by simp; omega, ?_⟩⟩, fun i e' hi => ?_⟩
 · rcases List.mem_cons.1 he' with rfl | he'
   · exact sd
   · obtain rfl : e' = e := by simpa using he'
     exact se
 · have hk : g = k := by simpa [Value.ownBlock] using hg.symm
   subst hk
   rw [h] at hc
   injection hc with hc
   injection hc with hc
   subst hc
   refine hd.first sd x ?_
   rw [List.getElem?_toArray, List.getElem?_append_left (by omega)] at hx
   exact hx
 · show List.take (2 * n) (us ++ vs) = us ++ vs
   exact List.take_of_length_le (by simp; omega)
 · have hil := (List.getElem?_eq_some_iff.1 hi).1
   have hil : i < 2 := hil
   rcases i with _ | _ | i
   · obtain rfl : e' = d := by simpa using hi.symm
     rw [Nat.zero_mul, List.drop_zero, List.take_append_of_le_length (by omega), List.take_of_length_le (by omega)]
     exact hd
   · obtain rfl : e' = e := by simpa using hi.symm
     rw [Nat.zero_add, Nat.one_mul, List.drop_append_of_le_length (by omega), List.drop_of_length_le (by omega), List.nil_append, List.take_of_length_le (by omega)]
     exact he
   · omega
theorem elQ_le {w : World} {r : Rat} {j k : Nat} {vs : List Value} (h : jp w (elQ j r) vs) (hk : j ≤ k) : jp w (elQ k r) vs := by
 obtain ⟨us, ws, h1, ⟨f, ⟨h2, h3⟩, h4⟩, h5⟩ := h
 exact ⟨us, ws, h1, ⟨f, ⟨h2, h3.le hk⟩, h4⟩, h5⟩
theorem ends_of {xs : List Rat} {a b c l h y : Rat} (hl : xAt xs 0 = l) (hh : xAt xs 1 = h) (hn : 2 ≤ xs.length) (ht : ¬ a.num = 0 → jv l h (cV a b) = true → 2 < xs.length ∧ xAt xs 2 = cV a b) (hy : y = qLow a b c l h ∨ y = qHigh a b c l h) : ∃ u, u < xs.length ∧ cw a b c (xAt xs u) = y := by
 rcases quad_ends hy with rfl | rfl | ⟨h1, h2, rfl⟩
 · exact ⟨0, by omega, by rw [hl]⟩
 · exact ⟨1, by omega, by rw [hh]⟩
 · obtain ⟨h3, h4⟩ := ht h1 h2
   exact ⟨2, h3, by rw [h4]⟩
abbrev cla (z7 z8 v2 : Value) (k l : Nat) (m : Nat) (a b c lo hi x : Rat) : List Cl := [clW z7, clW z8, clW v2, clW (cT z8 (0 * 8)), clW (cT v2 (0 * 1)), clV (.int .u8 (m : Int)), cQ lo 4, cQ hi 4, cQ x 70, clW (cT z7 (0 * 4)), clW (cT z7 (1 * 4)), clW (cT z7 (2 * 4)), cQ a 4, cQ b 4, cQ c 4, cQ (qLow a b c lo hi) 67, cQ (qHigh a b c lo hi) 67, clW (cT z8 (0 * 8 + 4)), clW (cT (sl1 k) 0), clW (cT (sl1 l) 0)]
noncomputable abbrev Ca (z7 z8 v2 : Value) (k l : Nat) (m : Nat) (a b c lo hi x : Rat) (w : World) : Ctx := mkC [1, 1, 1, 1, 1, 1, 4, 4, 4, 1, 1, 1, 4, 4, 4, 4, 4, 1, 1, 1] [false, false, false, false, false, true, true, true, true, false, false, false, true, true, true, true, true, false, false, false] okS 299 (cla z7 z8 v2 k l m a b c lo hi x) w
def ta1 : List Ent := [⟨.ix 93, [op 1, vp (ii 0)], .val (op 3)⟩, ⟨.ld 66, [op 3], .val (sp 6 7)⟩, ⟨.ix bsT, [op 2, vp (ii 0)], .val (op 4)⟩, ⟨.ld 5, [op 4], .val (op 5)⟩, ⟨.call 73, [sp 6 7, op 5], .val (qp 8)⟩,
 ⟨.ix 91, [op 0, vp (ii 0)], .val (op 9)⟩, ⟨.ix 91, [op 0, vp (ii 1)], .val (op 10)⟩, ⟨.ix 91, [op 0, vp (ii 2)], .val (op 11)⟩, ⟨.ld 26, [op 9], .val (qp 12)⟩, ⟨.ld 26, [op 10], .val (qp 13)⟩, ⟨.ld 26, [op 11], .val (qp 14)⟩, ⟨.call 70, [qp 12, qp 13, qp 14, sp 6 7], .val (sp 15 16)⟩]
def ta2 : List Ent := [⟨.ix 93, [op 1, vp (ii 0)], .val (op 3)⟩, ⟨.fa 66 0, [op 3], .val (op 3)⟩, ⟨.fa 66 1, [op 3], .val (op 17)⟩, ⟨.ld 26, [op 3], .val (qp 6)⟩, ⟨.ld 26, [op 17], .val (qp 7)⟩]
abbrev clc (B : Nat) (z9 z7 z8 : Value) (k l : Nat) (a b lo hi v : Rat) : List Cl := [clO B qT 4 z9 [elQ 13 lo, elQ 13 hi] (nxt (elQ 13 v)), clW z7, clW z8, clW (cT (sl1 k) 0), clW (cT (sl1 l) 0), clW (cT z7 (1 * 4)), clW (cT z7 (0 * 4)), cQ a 4, cQ b 4, cQ (-b) 4, cQ (a + a) 9, cQ v 13, clW (cT z8 (0 * 8)), cQ lo 4, cQ hi 4]
noncomputable abbrev Cc (z9 z7 z8 : Value) (k l : Nat) (a b lo hi v : Rat) (w : World) : Ctx := mkC [1, 1, 1, 1, 1, 1, 1, 4, 4, 4, 4, 4, 1, 4, 4] [false, false, false, false, false, false, false, true, true, true, true, true, false, true, true] okS 299 (clc w.heap.size z9 z7 z8 k l a b lo hi v) w
noncomputable abbrev Cd (z9 z7 z8 : Value) (k l : Nat) (a b lo hi v : Rat) (w : World) : Ctx := mkC [1, 1, 1, 1, 1, 1, 1, 4, 4, 4, 4, 4, 1, 4, 4, 1] [false, false, false, false, false, false, false, true, true, true, true, true, false, true, true, false] [] 299 (clc w.heap.size z9 z7 z8 k l a b lo hi v ++ [clN w.heap.size qT 4 ([elQ 13 lo, elQ 13 hi] ++ [elQ 13 v])]) w
def tc1 : List Ent := [⟨.ix 91, [op 1, vp (ii 1)], .val (op 5)⟩, ⟨.ix 91, [op 1, vp (ii 0)], .val (op 6)⟩, ⟨.ld 26, [op 6], .val (qp 7)⟩, ⟨.ld 26, [op 5], .val (qp 8)⟩, ⟨.call 37, [qp 8], .val (qp 9)⟩, ⟨.call 25, [qp 7, qp 7], .val (qp 10)⟩]
def tc2 (e : Int) : List Ent := [⟨.call 34, [qp 9, qp 10], .tup [qp 11, vp (.int .i64 e)]⟩]
def tc3 (d : Bool) : List Ent := [⟨.ix 93, [op 2, vp (ii 0)], .val (op 12)⟩, ⟨.ld 66, [op 12], .val (sp 13 14)⟩, ⟨.call 56, [sp 13 14, qp 11], .val (vp (.bool d))⟩]
def td1 : List Ent := [⟨.blt .append [91, 91] 91, [op 0, .slc qT 1 [.cls 11 4]], .val (op 15)⟩]
section
variable {z7 z8 z9 v2 : Value} {k l m : Nat} {a b c lo hi x v : Rat} {w w0 w1 : World} {cs : List Rat} {bs : List (Rat × Rat)} {pl : List UInt8} {t : Act}
theorem ca_ok (h7 : z7.oneCell' = true) (h8 : z8.oneCell' = true) (h2 : v2.oneCell' = true) : (Ca z7 z8 v2 k l m a b c lo hi x w).Ok := by
 have q := fun r k => clQ_ok (okT := okS) (B := w.heap.size) qrsT.1 r k
 have p := fun v n => cZ (okT := okS) (B := w.heap.size) (ptrAt_one v n)
 exact mkC_ok (ci (cZ h7) <| ci (cZ h8) <| ci (cZ h2) <| ci (p _ _) <| ci (p _ _) <| ci (clV_ok rfl) <| ci (q _ _) <| ci (q _ _) <| ci (q _ _) <| ci (p _ _) <| ci (p _ _) <| ci (p _ _) <| ci (q _ _) <| ci (q _ _) <| ci (q _ _) <| ci (q _ _) <| ci (q _ _) <| ci (p _ _) <| ci (p _ _) <| ci (p _ _) oks_nil) rfl rfl
theorem clc_L {B : Nat} {l' : List Cl} (hl : l'.flatMap (·.L) = []) : ∀ g ∈ (clc B z9 z7 z8 k l a b lo hi v ++ l').flatMap (·.L), g.t = qT ∧ g.m = 2 * 4 ∧ g.n = 4 ∧ g.e = nxt (elQ 13 v) :=
 mem_O (fun g hg => clO_L hg) (mem_R (show List.flatMap (·.L) l' = [] from hl))
theorem cc_ok (h9 : z9.oneCell' = true) (h7 : z7.oneCell' = true) (h8 : z8.oneCell' = true) : (Cc z9 z7 z8 k l a b lo hi v w).Ok := by
 have hL := clc_L (z9 := z9) (z7 := z7) (z8 := z8) (k := k) (l := l) (a := a) (b := b) (lo := lo) (hi := hi) (v := v) (B := w.heap.size) (l' := []) rfl
 rw [List.append_nil] at hL
 have q := fun r k => clQ_ok (okT := okS) (B := w.heap.size) qrsT.1 r k
 have p := fun v n => cZ (okT := okS) (B := w.heap.size) (ptrAt_one v n)
 refine mkC_ok (ci (clO_ok sepS h9) <| ci (cZ h7) <| ci (cZ h8) <| ci (p _ _) <| ci (p _ _) <| ci (p _ _) <| ci (p _ _) <| ci (q _ _) <| ci (q _ _) <| ci (q _ _) <| ci (q _ _) <| ci (q _ _) <| ci (p _ _) <| ci (q _ _) <| ci (q _ _) oks_nil) rfl rfl (.inr ?_)
 exact cn (gr_O (fun g hg => .inr (hL g hg).2.1)) <| cn gr_W <| cn gr_W <| cn gr_W <| cn gr_W <| cn gr_W <| cn gr_W <| cn (gr_Q _ _) <| cn (gr_Q _ _) <| cn (gr_Q _ _) <| cn (gr_Q _ _) <| cn (gr_Q _ _) <| cn gr_W <| cn (gr_Q _ _) <| cn (gr_Q _ _) grs_nil
theorem cd_ok (h9 : z9.oneCell' = true) (h7 : z7.oneCell' = true) (h8 : z8.oneCell' = true) : (Cd z9 z7 z8 k l a b lo hi v w).Ok := by
 have hL := clc_L (z9 := z9) (z7 := z7) (z8 := z8) (k := k) (l := l) (a := a) (b := b) (lo := lo) (hi := hi) (v := v) (B := w.heap.size) (l' := [clN w.heap.size qT 4 ([elQ 13 lo, elQ 13 hi] ++ [elQ 13 v])]) rfl
 have q := fun r k => clQ_ok (okT := []) (B := w.heap.size) noT r k
 have p := fun v n => cZ (okT := []) (B := w.heap.size) (ptrAt_one v n)
 refine mkC_ok (ci (clO_ok (noN rfl) h9) <| ci (cZ h7) <| ci (cZ h8) <| ci (p _ _) <| ci (p _ _) <| ci (p _ _) <| ci (p _ _) <| ci (q _ _) <| ci (q _ _) <| ci (q _ _) <| ci (q _ _) <| ci (q _ _) <| ci (p _ _) <| ci (q _ _) <| ci (q _ _) <| ci clN_ok oks_nil) rfl rfl (.inr ?_)
 exact cn (gr_O (fun g hg => .inr (hL g hg).2.1)) <| cn gr_W <| cn gr_W <| cn gr_W <| cn gr_W <| cn gr_W <| cn gr_W <| cn (gr_Q _ _) <| cn (gr_Q _ _) <| cn (gr_Q _ _) <| cn (gr_Q _ _) <| cn (gr_Q _ _) <| cn gr_W <| cn (gr_Q _ _) <| cn (gr_Q _ _) <| cn (gr_N (st_q v 13) (fun g hg => .inr (hL g hg).2)) grs_nil
theorem el3 (hn : 3 ≤ cs.length) (ha : cs.getD 0 0 = a) (hb : cs.getD 1 0 = b) (hc : cs.getD 2 0 = c) : (cs.map (elQ 4))[0]? = some ([] ++ [cQ a 4] ++ []) ∧ (cs.map (elQ 4))[1]? = some ([] ++ [cQ b 4] ++ []) ∧ (cs.map (elQ 4))[2]? = some ([] ++ [cQ c 4] ++ []) :=
 ⟨by rw [← ha]; exact jg (elQ 4) 0 (by omega), by rw [← hb]; exact jg (elQ 4) 0 (by omega), by rw [← hc]; exact jg (elQ 4) 0 (by omega)⟩
theorem els (hn : 0 < bs.length) (hl : bs.getD 0 (0, 0) = (lo, hi)) : (bs.map (elS 4))[0]? = some [cQ lo 4, cQ hi 4] := by
 have := jg (elS 4) (0, 0) hn
 rw [hl] at this
 exact this
theorem ta1_ok (hG : Gr w) (L7 : Ls 4 w z7 (cs.map (elQ 4))) (L8 : Ls 8 w z8 (bs.map (elS 4))) (L2 : Ls 1 w v2 (pl.map elB)) (hn : 3 ≤ cs.length) (hb0 : 0 < bs.length) (hp : 0 < pl.length) (ha : cs.getD 0 0 = a) (hb : cs.getD 1 0 = b) (hc : cs.getD 2 0 = c) (hl : bs.getD 0 (0, 0) = (lo, hi)) (zl : cF lo 4) (zh : cF hi 4) (hx : lo + (hi - lo) * partOf (mI pl 0) = x) :
 ∀ t ∈ ta1, t.Valid (Ca z7 z8 v2 k l (mI pl 0) a b c lo hi x w) := by
 have lc : (cs.map (elQ 4)).length = cs.length := by simp
 have lb : (bs.map (elS 4)).length = bs.length := by simp
 have lp : (pl.map elB).length = pl.length := by simp
 obtain ⟨e0, e1, e2⟩ := el3 hn ha hb hc
 have eb : (pl.map elB)[0]? = some ([] ++ [clV (.int .u8 (mI pl 0 : Int))] ++ []) := jg elB 0 hp
 exact cg (e_ixZ (n := 8) (i := 0) und_sps siz_sps (pvW rfl) (pzW rfl L8) pvl (by omega) (rvW rfl)) <| cg (e_ldZ (n := 8) (i := 0) agg_sp siz_sp [] [] (pvW rfl) (fun w hb => L8.below hb) (els hb0 hl) ⟨_, _, rfl, rfl, rfl, _, _, rfl, rfl, rfl, rfl⟩ rfl) <| cg (e_ixZ (n := 1) (i := 0) und_bs siz_bs (pvW rfl) (pzW rfl L2) pvl (by omega) (rvW rfl)) <|
  cg (e_ldZ1 (n := 1) (i := 0) (y := clV (.int .u8 (mI pl 0 : Int))) agg_u8 [] [] (pvW rfl) (fun w hb => L2.below hb) eb rfl rfl) <| cg (e_at hG (mI_le pl 0) (ps rfl rfl) rfl (by rw [hx]; rfl) (zl.le (by decide)) (zh.le (by decide)) rfl) <|
  cg (e_ixZ (n := 4) (i := 0) und_qs siz_qs (pvW rfl) (pzW rfl L7) pvl (by omega) (rvW rfl)) <| cg (e_ixZ (n := 4) (i := 1) und_qs siz_qs (pvW rfl) (pzW rfl L7) pvl (by omega) (rvW rfl)) <| cg (e_ixZ (n := 4) (i := 2) und_qs siz_qs (pvW rfl) (pzW rfl L7) pvl (by omega) (rvW rfl)) <|
  cg (e_ldZ (n := 4) (i := 0) agg_q siz_q [] [] (pvW rfl) (fun w hb => L7.below hb) e0 ⟨_, _, rfl, rfl, rfl, rfl⟩ rfl) <| cg (e_ldZ (n := 4) (i := 1) agg_q siz_q [] [] (pvW rfl) (fun w hb => L7.below hb) e1 ⟨_, _, rfl, rfl, rfl, rfl⟩ rfl) <| cg (e_ldZ (n := 4) (i := 2) agg_q siz_q [] [] (pvW rfl) (fun w hb => L7.below hb) e2 ⟨_, _, rfl, rfl, rfl, rfl⟩ rfl) <|
  cg (e_quad (k := 4) hG (pq rfl) (pq rfl) (pq rfl) (ps rfl rfl) (by decide) (by decide) (by decide) rfl rfl) cA
theorem ta2_ok (L8 : Ls 8 w z8 (bs.map (elS 4))) (hb0 : 0 < bs.length) (hl : bs.getD 0 (0, 0) = (lo, hi)) : ∀ t ∈ ta2, t.Valid (Ca z7 z8 v2 k l m a b c lo hi x w) := by
 have lb : (bs.map (elS 4)).length = bs.length := by simp
 have hreal := L8.real (i := 0) (by omega)
 exact cg (e_ixZ (n := 8) (i := 0) und_sps siz_sps (pvW rfl) (pzW rfl L8) pvl (by omega) (rvW rfl)) <| cg (e_faZ (es := bs.map (elS 4)) (off := 0) (m := 3) (by kernel_rfl) (pvW rfl) hreal (rvW rfl)) <| cg (e_faZ (es := bs.map (elS 4)) (off := 4) (m := 3) (by kernel_rfl) (pvW rfl) hreal (rvW rfl)) <|
  cg (e_ldZ (n := 8) (i := 0) agg_q siz_q [] [cQ hi 4] (pvW (x := cT z8 (0 * 8)) rfl) (fun w hb => L8.below hb) (els hb0 hl) ⟨_, _, rfl, rfl, rfl, rfl⟩ rfl) <| cg (e_ldZ (n := 8) (i := 0) agg_q siz_q [cQ lo 4] [] (pvW (x := cT z8 (0 * 8 + 4)) rfl) (fun w hb => L8.below hb) (els hb0 hl) ⟨_, _, rfl, rfl, rfl, rfl⟩ rfl) cA
theorem tc1_ok (hG : Gr w) (L7 : Ls 4 w z7 (cs.map (elQ 4))) (hn : 3 ≤ cs.length) (ha : cs.getD 0 0 = a) (hb : cs.getD 1 0 = b) : ∀ t ∈ tc1, t.Valid (Cc z9 z7 z8 k l a b lo hi v w) := by
 have lc : (cs.map (elQ 4)).length = cs.length := by simp
 obtain ⟨e0, e1, _⟩ := el3 hn ha hb rfl
 exact cg (e_ixZ (n := 4) (i := 1) und_qs siz_qs (pvW rfl) (pzW rfl L7) pvl (by omega) (rvW rfl)) <| cg (e_ixZ (n := 4) (i := 0) und_qs siz_qs (pvW rfl) (pzW rfl L7) pvl (by omega) (rvW rfl)) <|
  cg (e_ldZ (n := 4) (i := 0) agg_q siz_q [] [] (pvW rfl) (fun w hb => L7.below hb) e0 ⟨_, _, rfl, rfl, rfl, rfl⟩ rfl) <| cg (e_ldZ (n := 4) (i := 1) agg_q siz_q [] [] (pvW rfl) (fun w hb => L7.below hb) e1 ⟨_, _, rfl, rfl, rfl, rfl⟩ rfl) <| cg (e_neg (pq rfl) rfl rfl) <| cg (e_plus hG (pq rfl) (pq rfl) rfl rfl) cA
theorem tc3_ok {d : Bool} (L8 : Ls 8 w z8 (bs.map (elS 4))) (hb0 : 0 < bs.length) (hl : bs.getD 0 (0, 0) = (lo, hi)) (hd : jv lo hi v = d) : ∀ t ∈ tc3 d, t.Valid (Cc z9 z7 z8 k l a b lo hi v w) := by
 have lb : (bs.map (elS 4)).length = bs.length := by simp
 exact cg (e_ixZ (n := 8) (i := 0) und_sps siz_sps (pvW rfl) (pzW rfl L8) pvl (by omega) (rvW rfl)) <| cg (e_ldZ (n := 8) (i := 0) agg_sp siz_sp [] [] (pvW rfl) (fun w hb => L8.below hb) (els hb0 hl) ⟨_, _, rfl, rfl, rfl, _, _, rfl, rfl, rfl, rfl⟩ rfl) <| cg (e_has (ps rfl rfl) (pq rfl) rfl hd) cA
end
end Sym
open Go Go.RowKit Go.Proofs Lim
namespace Sym
section
variable {z7 z8 z9 v2 : Value} {a b c lo hi x : Rat} {w w0 w1 : World} {cs : List Rat} {bs : List (Rat × Rat)} {pl : List UInt8} {t : Act}
set_option maxRecDepth 100000 in
set_option maxHeartbeats 2000000 in
theorem tail8 (hG : Gr w) (hw : Below w0.heap.size w0 w) (L7 : Ls 4 w z7 (cs.map (elQ 4))) (L8 : Ls 8 w z8 (bs.map (elS 4))) (L2 : Ls 1 w v2 (pl.map elB)) (hn : 3 ≤ cs.length) (hb0 : 0 < bs.length) (hp : 0 < pl.length) (ha : cs.getD 0 0 = a) (hb : cs.getD 1 0 = b) (hc : cs.getD 2 0 = c) (hl : bs.getD 0 (0, 0) = (lo, hi)) (zl : cF lo 4) (zh : cF hi 4) (hx : lo + (hi - lo) * partOf (mI pl 0) = x) (hin : Btw lo hi x)
 (hA : At (Ca z7 z8 v2 0 0 (mI pl 0) a b c lo hi x w) [.val 2 (op 2), .val 7 (op 0), .val 8 (op 1)] t w1) : (jc 8 b_lv).wp Tryz.prog (bodyPost Tryz.prog Tryz.f9 (LF w0)) t w1 := by
 refine front_is (ca_ok L7.one L8.one L2.one) (ta1_ok hG L7 L8 L2 hn hb0 hp ha hb hc hl zl zh hx) 60 2 [.val 7 (op 0), .val 8 (op 1), .box 17 qT [.cls 8 4], .box 18 sT [.cls 15 4, .cls 16 4]] (by kernel_rfl) hA (fun t w1 hA => ?_)
 obtain ⟨⟨u7, g7, e7⟩, ⟨u8, g8, e8⟩, k, vk, gk, _, _, hk, ck, l, vl, gl, _, _, hl', cl', _⟩ := hA.items
 rw [(cE rfl).1 e7] at g7
 rw [(cE rfl).1 e8] at g8
 have M7 := L7.below hA.below
 have M8 := L8.below hA.below
 have M2 := L2.below hA.below
 have hG1 := hG.below hA.below hG.size
 have hw1 : Below w0.heap.size w0 w1 := hw.trans (hA.below.mono hw.size)
 have N17 : Ls 4 w1 (sl1 k) [[cQ x 70]] := box_ls hk (are_res (cl := cla z7 z8 v2 0 0 (mI pl 0) a b c lo hi x) (gs := [.cls 8 4]) (xs := [cQ x 70]) ⟨_, _, rfl, rfl, rfl, rfl⟩ ck) (st_q _ _) rfl
 have N18 : Ls 8 w1 (sl1 l) [[cQ (qLow a b c lo hi) 67, cQ (qHigh a b c lo hi) 67]] := box_ls hl' (are_res (cl := cla z7 z8 v2 0 0 (mI pl 0) a b c lo hi x) (gs := [.cls 15 4, .cls 16 4]) (xs := [cQ (qLow a b c lo hi) 67, cQ (qHigh a b c lo hi) 67]) ⟨_, _, rfl, rfl, rfl, _, _, rfl, rfl, rfl, rfl⟩ cl') (st_cons (clQ_st _ _) (st_cons (clQ_st _ _) st_nil)) rfl
 have hB : At (Ca z7 z8 v2 k l (mI pl 0) a b c lo hi x w1) [.val 7 (op 0), .val 8 (op 1), .val 17 (op 18), .val 18 (op 19)] t w1 := ⟨Below.refl _ _, hA.defers, hA.size, ⟨⟨_, g7, (cE rfl).2 rfl⟩, ⟨_, g8, (cE rfl).2 rfl⟩, ⟨_, gk, (cE rfl).2 rfl⟩, ⟨_, gl, (cE rfl).2 rfl⟩, trivial⟩, lim_at (lim_rest rfl)⟩
 clear hA g7 g8 gk gl e7 e8 hk ck hl' cl' L7 L8 L2 hG hw
 show (jc 10 b_lv).wp Tryz.prog _ _ _
 refine front_is (ca_ok M7.one M8.one M2.one) (ta2_ok M8 hb0 hl) 60 1 [.val 7 (op 0), .val 8 (op 1), .val 17 (op 18), .val 18 (op 19), .own 19 qT 2 [.cls 6 4, .cls 7 4]] (by kernel_rfl) hB (fun t w2 hA => ?_)
 clear hB
 obtain ⟨⟨u7, g7, e7⟩, ⟨u8, g8, e8⟩, ⟨u17, g17, e17⟩, ⟨u18, g18, e18⟩, ⟨r, vr, gr, ⟨br, _⟩, hr, cr⟩, _⟩ := hA.items
 rw [(cE rfl).1 e7] at g7
 rw [(cE rfl).1 e8] at g8
 rw [(cE rfl).1 e17] at g17
 rw [(cE rfl).1 e18] at g18
 obtain ⟨us, ws, rfl, hu, hv⟩ := jp.append (e := elQ 4 lo) (e' := elQ 4 hi) (are_res (cl := cla z7 z8 v2 k l (mI pl 0) a b c lo hi x) (gs := [.cls 6 4, .cls 7 4]) (xs := [cQ lo 4, cQ hi 4]) ⟨_, _, rfl, rfl, rfl, _, _, rfl, rfl, rfl, rfl⟩ cr)
 have o9 : jr w1.heap.size qT 4 w2 (.slice (some ⟨r, 0, none⟩) 2 2) [elQ 13 lo, elQ 13 hi] := jr.two hr br (elQ_le hu (by decide)) (elQ_le hv (by decide)) (st_q _ _) (st_q _ _) hu.length hv.length (by decide)
 have hC : ∀ v, At (Cc (.slice (some ⟨r, 0, none⟩) 2 2) z7 z8 k l a b lo hi v w1) [.val 7 (op 1), .val 8 (op 2), .val 17 (op 3), .val 18 (op 4), .val 19 (op 0)] t w2 := fun v =>
  ⟨hA.below, hA.defers, hA.size, ⟨⟨_, g7, (cE rfl).2 rfl⟩, ⟨_, g8, (cE rfl).2 rfl⟩, ⟨_, g17, (cE rfl).2 rfl⟩, ⟨_, g18, (cE rfl).2 rfl⟩, ⟨_, gr, (op_isO rfl).2 ⟨rfl, o9⟩⟩, trivial⟩, lim_at (lim_O o9 (lim_rest rfl))⟩
 have one9 := o9.one
 have hh : jv (qLow a b c lo hi) (qHigh a b c lo hi) (cw a b c x) = true := (hasQ_iff _ _ _).2 (quad_in hin)
 have fin : ∀ (xs : List Rat) (z9 : Value) (t : Act) (w3 : World), xs.length ≤ 3 → 2 ≤ xs.length → xAt xs 0 = lo → xAt xs 1 = hi → (¬ a.num = 0 → jv lo hi (cV a b) = true → 2 < xs.length ∧ xAt xs 2 = cV a b) → Below w1.heap.size w1 w3 → t.defers = [] → t.tmps.size = 299 → t.tmps[7]? = some z7 → t.tmps[17]? = some (cT (sl1 k) 0) → t.tmps[18]? = some (cT (sl1 l) 0) → t.tmps[19]? = some z9 → Ls 4 w3 z9 (xs.map (elQ 13)) →
  (jc 12 b_lv).wp Tryz.prog (bodyPost Tryz.prog Tryz.f9 (LF w0)) t w3 := by
  intro xs z9 t w3 h3 h2 x0 x1 x2 hb3 hd hs g7 g17 g18 g19 L9
  obtain ⟨u, hu, eu⟩ := ends_of (c := c) x0 x1 h2 x2 (.inl rfl)
  obtain ⟨v, hv, ev⟩ := ends_of (c := c) x0 x1 h2 x2 (.inr rfl)
  exact tailw (hG1.below hb3 hG1.size) (hw1.trans (hb3.mono hw1.size)) (M7.below hb3) L9 (N17.below hb3) (N18.below hb3) hn ha hb hc h3 hh hu hv eu ev ⟨Below.refl _ _, hd, hs, ⟨⟨_, g7, (cE rfl).2 rfl⟩, ⟨_, g17, (cE rfl).2 rfl⟩, ⟨_, g18, (cE rfl).2 rfl⟩, ⟨_, g19, (cE rfl).2 rfl⟩, trivial⟩, lim_at (lim_rest rfl)⟩
 have two : ∀ (v : Rat) (t : Act) (w3 : World), (¬ a.num = 0 → jv lo hi (cV a b) = true → False) → At (Cc (.slice (some ⟨r, 0, none⟩) 2 2) z7 z8 k l a b lo hi v w1) [.val 7 (op 1), .val 17 (op 3), .val 18 (op 4), .val 19 (op 0)] t w3 → (jc 12 b_lv).wp Tryz.prog (bodyPost Tryz.prog Tryz.f9 (LF w0)) t w3 := by
  intro v t w3 hno hA
  obtain ⟨⟨u7, g7, e7⟩, ⟨u17, g17, e17⟩, ⟨u18, g18, e18⟩, ⟨u19, g19, e19⟩, _⟩ := hA.items
  rw [(cE rfl).1 e7] at g7
  rw [(cE rfl).1 e17] at g17
  rw [(cE rfl).1 e18] at g18
  obtain ⟨h19, o19⟩ := (op_isO rfl).1 e19
  exact fin [lo, hi] u19 t w3 (show 2 ≤ 3 by decide) (show 2 ≤ 2 by decide) rfl rfl (fun h1 h2 => (hno h1 h2).elim) hA.below hA.defers hA.size g7 g17 g18 g19 (by rw [h19]; exact o19.ls)
 show (Code.seq (seqL (jc 11 b_lv)) (jc 12 b_lv)).wp Tryz.prog _ _ _
 refine wp_seq ?_
 by_cases h0 : a + a = 0
 · have hT : ∀ t ∈ tc1 ++ tc2 10, t.Valid (Cc (.slice (some ⟨r, 0, none⟩) 2 2) z7 z8 k l a b lo hi 0 w1) := t_app (tc1_ok hG1 M7 hn ha hb) (cg (e_over0 (pq rfl) (pq rfl) rfl rfl h0) cA)
   refine jf (cc_ok one9 M7.one M8.one) hT (x := .normal) (n := 60) (post := [.val 7 (op 1), .val 17 (op 3), .val 18 (op 4), .val 19 (op 0)]) (by kernel_rfl) (hC 0) (fun t w3 hA => two 0 t w3 (fun h1 _ => h1 (by
    have : a = 0 := by grind
    rw [this]; rfl)) hA)
 · have hT : ∀ d, jv lo hi (cV a b) = d → ∀ t ∈ tc1 ++ tc2 0 ++ tc3 d, t.Valid (Cc (.slice (some ⟨r, 0, none⟩) 2 2) z7 z8 k l a b lo hi (cV a b) w1) := fun d hd => t_app (t_app (tc1_ok hG1 M7 hn ha hb) (cg (e_over hG1 (pq rfl) (pq rfl) (by rw [Rat.div_def]; rfl) rfl h0) cA)) (tc3_ok M8 hb0 hl hd)
   cases hd : jv lo hi (cV a b)
   · refine jf (cc_ok one9 M7.one M8.one) (hT false hd) (x := .normal) (n := 60) (post := [.val 7 (op 1), .val 17 (op 3), .val 18 (op 4), .val 19 (op 0)]) (by kernel_rfl) (hC _) (fun t w3 hA => two _ t w3 (fun _ h2 => by rw [hd] at h2; cases h2) hA)
   · refine front_is (cc_ok one9 M7.one M8.one) (hT true hd) 60 2 [.val 7 (op 1), .val 17 (op 3), .val 18 (op 4), .val 19 (op 0), .box 20 qT [.cls 11 4], .val 227 (vp (.bool true))] (by kernel_rfl) (hC _) (fun t w3 hA => ?_)
     have hD : At (Cd (.slice (some ⟨r, 0, none⟩) 2 2) z7 z8 k l a b lo hi (cV a b) w1) [.val 7 (op 1), .val 17 (op 3), .val 18 (op 4), .val 19 (op 0), .box 20 qT [.cls 11 4], .val 227 (vp (.bool true))] t w3 := at_reL hA [(0, 0), (1, 1), (3, 3), (4, 4), (11, 11)] (cH rfl <| cH rfl <| cH rfl <| cH rfl <| cH rfl prs_nil) rfl rfl (fun k hk => by
      rw [List.flatMap_append] at hk
      simpa [clN] using hk)
     have hT4 : ∀ t ∈ td1, t.Valid (Cd (.slice (some ⟨r, 0, none⟩) 2 2) z7 z8 k l a b lo hi (cV a b) w1) := cg (e_push und_q' inf_q rfl (by decide) (by decide) sep_q (by show 2 < 1000000; decide) (st_q _ _) rfl rfl ⟨_, _, rfl, rfl, rfl, rfl⟩ rfl) cA
     refine jf (cd_ok one9 M7.one M8.one) hT4 (x := .normal) (n := 60) (post := [.val 7 (op 1), .val 17 (op 3), .val 18 (op 4), .val 19 (op 15)]) (by kernel_rfl) hD (fun t w3 hA => ?_)
     obtain ⟨⟨u7, g7, e7⟩, ⟨u17, g17, e17⟩, ⟨u18, g18, e18⟩, ⟨u19, g19, e19⟩, _⟩ := hA.items
     rw [(cE rfl).1 e7] at g7
     rw [(cE rfl).1 e17] at g17
     rw [(cE rfl).1 e18] at g18
     exact fin [lo, hi, cV a b] u19 t w3 (show 3 ≤ 3 by decide) (show 2 ≤ 3 by decide) rfl rfl (fun _ _ => ⟨show 2 < 3 by decide, rfl⟩) hA.below hA.defers hA.size g7 g17 g18 g19 ((op_isN (es := [elQ 13 lo, elQ 13 hi] ++ [elQ 13 (cV a b)]) rfl).1 e19).ls
end
end Sym
open Go Go.RowKit Go.Proofs Lim
namespace Sym
def zQ4 : List Grp := [.lit (.bool false), .lit (.int .u64 0), .lit (.int .u64 0), .lit (.pointer none)]
theorem zq_cls {csz : List Nat} {numc : List Bool} {okT : List Nat} {nt : Nat} {cl : List Cl} {w0 w : World} {c k : Nat} {vs : List Value} (hc : cl[c]? = some (cQ 0 k)) (hk : 1 ≤ k) (h : GrpsAre (mkC csz numc okT nt cl w0) w zQ4 vs) : GrpsAre (mkC csz numc okT nt cl w0) w [.cls c 4] vs := by
 obtain ⟨_, _, rfl, rfl, _, _, rfl, rfl, _, _, rfl, rfl, _, _, rfl, rfl, rfl⟩ := h
 obtain ⟨us, ⟨xs, ys, e1, h1, h2⟩, e2⟩ := (qp_is (csz := csz) (numc := numc) (okT := okT) (nt := nt) (w0 := w0) (w := w) hc).2 ⟨zero_val w, cF.zero _ hk⟩
 have e3 : us = [.bool false, .int .u64 0, .int .u64 0, .pointer none] := by
  injection e2 with e2
  simpa using congrArg Array.toList e2.symm
 rw [show ys = [] from h2, List.append_nil, e3] at e1
 subst e1
 exact ⟨[.bool false, .int .u64 0, .int .u64 0, .pointer none], [], rfl, h1, rfl⟩
theorem getD_map' {α β : Type} (f : α → β) (d : α) (d' : β) {l : List α} {i : Nat} (h : i < l.length) : (l.map f).getD i d' = f (l.getD i d) := by
 rw [List.getD_eq_getElem?_getD, jg f d h]; rfl
abbrev clt (B : Nat) (z7 z8 v2 : Value) (ls : T8) (bx : TB) (x y z : Rat) : List Cl := [clO B qT 4 z7 ((ls.map nOf).map (elQ 4)) dead, clO B sT 8 z8 ((bx.map sOf).map (elS 4)) dead, clW v2, clV (ii (ls.length : Int)), cQ x (bx.length * 75 + 1), cQ y (bx.length * 75 + 1), cQ z (bx.length * 75 + 1)]
noncomputable abbrev Ct (z7 z8 v2 : Value) (ls : T8) (bx : TB) (x y z : Rat) (w : World) : Ctx := mkC [1, 1, 1, 1, 4, 4, 4] [false, false, false, true, true, true, true] okS 299 (clt w.heap.size z7 z8 v2 ls bx x y z) w
def tt (b : Bool) : List Ent := [⟨.call 68, [op 0, op 1], .tup [sp 5 6, vp (.int .i64 0)]⟩, ⟨.call 56, [sp 5 6, qp 4], .val (vp (.bool true))⟩, ⟨.call 74, [qp 5, qp 5], .val (vp (.bool true))⟩, ⟨.call 74, [qp 6, qp 6], .val (vp (.bool true))⟩, ⟨.blt .len [91] intT, [op 0], .val (op 3)⟩, ⟨.bin .lss intT, [op 3, vp (ii 3)], .val (vp (.bool b))⟩, ⟨.call 10, [], .val (vp (.bool true))⟩]
section
variable {v0 v1 v2 z7 z8 : Value} {ls : T8} {bx : TB} {pl : List UInt8} {x y z : Rat} {w w1 : World} {t : Act}
theorem ct_ok (h7 : z7.oneCell' = true) (h8 : z8.oneCell' = true) (h2 : v2.oneCell' = true) : (Ct z7 z8 v2 ls bx x y z w).Ok := by
 have hL : ∀ g ∈ (clt w.heap.size z7 z8 v2 ls bx x y z).flatMap (·.L), (g.t = qT ∧ g.m = ((ls.map nOf).map (elQ 4)).length * 4) ∨ (g.t = sT ∧ g.m = ((bx.map sOf).map (elS 4)).length * 8) :=
  cv_mem (B := 0) (fun g hg => .inl ⟨(clO_L hg).1, (clO_L hg).2.1⟩) (fun g hg => .inr ⟨(clO_L hg).1, (clO_L hg).2.1⟩) rfl
 have q := fun r k => clQ_ok (okT := okS) (B := w.heap.size) qrsT.1 r k
 refine mkC_ok (ci (clO_ok sepS h7) <| ci (clO_ok sepS h8) <| ci (cZ h2) <| ci (ju _) <| ci (q _ _) <| ci (q _ _) <| ci (q _ _) oks_nil) rfl rfl (.inr ?_)
 exact cn (gr_O (fun g hg => (hL g hg).elim (fun h => .inr h.2) (fun h => .inl (by rw [h.1]; decide)))) <| cn (gr_O (fun g hg => (hL g hg).elim (fun h => .inl (by rw [h.1]; decide)) (fun h => .inr h.2))) <| cn gr_W <| cn gr_V <| cn (gr_Q _ _) <| cn (gr_Q _ _) <| cn (gr_Q _ _) grs_nil
theorem tt_ok {b : Bool} (hG : Gr w) (hn : ls.length ≤ 8) (hlen : bx.length = ls.length) (hs : ∀ k, k < bx.length → Short ls bx k) (hb : decide ((ls.length : Int) < 3) = b) (hh : jv (loI ls bx bx.length) (hiI ls bx bx.length) x = true) : ∀ t ∈ tt b, t.Valid (Ct z7 z8 v2 ls bx x (loI ls bx bx.length) (hiI ls bx bx.length) w) := by
 have lc : (ls.map nOf).length = bx.length := by rw [List.length_map, hlen]
 have lm : ((ls.map nOf).map (elQ 4)).length = ls.length := by simp
 obtain ⟨f1, f2⟩ := form_lo (ls := ls) (bx := bx) bx.length (by omega) (Nat.le_refl _)
 have fs := form_siz (cs := ls.map nOf) (bs := bx.map sOf) (k := 4) (by decide) (fun r hr => by
  obtain ⟨l, hl, rfl⟩ := List.mem_map.1 hr
  obtain ⟨i, hi, rfl⟩ := List.getElem_of_mem hl
  have := (hs i (by omega)).1
  rw [List.getD_eq_getElem?_getD, List.getElem?_eq_getElem hi] at this
  exact siz_nOf this) (fun p hp => by
  obtain ⟨l, hl, rfl⟩ := List.mem_map.1 hp
  obtain ⟨i, hi, rfl⟩ := List.getElem_of_mem hl
  obtain ⟨_, h2, h3⟩ := hs i hi
  rw [List.getD_eq_getElem?_getD, List.getElem?_eq_getElem hi] at h2 h3
  exact ⟨siz_l1 (siz_nOf h2) (siz_nOf h3), siz_h1 (siz_nOf h2) (siz_nOf h3)⟩) bx.length
 rw [f1, f2] at fs
 rw [← lc] at f1 f2
 have n8 : bx.length ≤ 8 := by omega
 exact cg (e_form (k := 4) (K := bx.length * 75 + 1) (cs := ls.map nOf) (bs := bx.map sOf) hG (pzO rfl) (pzO rfl) (by simp; exact hlen) (by omega) (by decide) (by rw [f1]; rw [lc]; exact fs.1.le (by omega)) (by rw [f2]; rw [lc]; exact fs.2.le (by omega)) (by rw [f1, lc]; rfl) (by rw [f2, lc]; rfl)) <|
  cg (e_has (ps rfl rfl) (pq rfl) (fits_mk (by omega) (Nat.le_refl _)) hh) <| cg (e_equal (pq rfl) (pq rfl) (fits_mk (by omega) (Nat.le_refl _)) (decide_eq_true rfl)) <| cg (e_equal (pq rfl) (pq rfl) (fits_mk (by omega) (Nat.le_refl _)) (decide_eq_true rfl)) <|
  cg (e_lenZ und_qs (pzO rfl) (by rw [lm]; exact rv rfl)) <| cg (e_lss (pv rfl) pvl hb) <| cg (e_known hG) cA
abbrev It : List Item := [.val 2 (op 4), .val 7 (op 0), .val 8 (op 1), .box 9 qT [.cls 27 4], .box 10 qT [.cls 28 4], .box 11 qT [.cls 29 4]]
abbrev It' : List Item := [.val 2 (op 2), .val 7 (op 0), .val 8 (op 1), .box 9 qT [.cls 4 4], .box 10 qT [.cls 5 4], .box 11 qT [.cls 6 4]]
set_option maxRecDepth 100000 in
set_option maxHeartbeats 1000000 in
theorem tail5 (hG : Gr w) (L2 : Ls 1 w v2 (pl.map elB)) (hn : ls.length ≤ 8) (hlen : bx.length = ls.length) (hp : bx.length ≤ pl.length) (hs : ∀ k, k < bx.length → Short ls bx k) (hA : At (Cva v0 v1 v2 z7 z8 ls bx pl bx.length bx.length w) I1 t w1) : (jc 5 b_lv).wp Tryz.prog (bodyPost Tryz.prog Tryz.f9 (LF w)) t w1 := by
 have hone := at_one hA
 have qall : qLs ls bx.length = (ls.map nOf).map (elQ 4) := by unfold qLs; rw [List.take_of_length_le (by omega)]
 have sall : sLs bx bx.length = (bx.map sOf).map (elS 4) := by unfold sLs; rw [List.take_of_length_le (by omega)]
 have hA := hA.turn (is' := It) (fun ⟨_, _, g3, g4, g5, ka, va, a1, a2, a3, a4, a5, kb, vb, b1, b2, b3, b4, b5, kc, vc, c1, c2, c3, c4, c5, _, _⟩ => ⟨g3, g4, g5, ka, va, a1, a2, a3, a4, a5, kb, vb, b1, b2, b3, b4, b5, kc, vc, c1, c2, c3, c4, c5, trivial⟩)
 have hB : At (Ct z7 z8 v2 ls bx (vaI ls bx pl bx.length) (loI ls bx bx.length) (hiI ls bx bx.length) w) It' t w1 := at_reL hA [(2, 4), (0, 0), (1, 1), (4, 27), (5, 28), (6, 29)]
  (cH rfl <| cH (show some (clO _ _ _ _ (qLs ls bx.length) _) = some (clO _ _ _ _ ((ls.map nOf).map (elQ 4)) _) by rw [qall]) <| cH (show some (clO _ _ _ _ (sLs bx bx.length) _) = some (clO _ _ _ _ ((bx.map sOf).map (elS 4)) _) by rw [sall]) <| cH rfl <| cH rfl <| cH rfl prs_nil) rfl rfl (fun k hk => by
   unfold clt at hk
   rw [← qall, ← sall] at hk
   exact hk)
 have hC := ct_ok (ls := ls) (bx := bx) (x := vaI ls bx pl bx.length) (y := loI ls bx bx.length) (z := hiI ls bx bx.length) (w := w) hone.1 hone.2 L2.one
 have hh : jv (loI ls bx bx.length) (hiI ls bx bx.length) (vaI ls bx pl bx.length) = true := (hasQ_iff _ _ _).2 (.inl (value_in ls bx pl bx.length))
 by_cases h3 : ls.length < 3
 · refine jf hC (tt_ok hG hn hlen hs (decide_eq_true (by omega)) hh) (x := .ret) (n := 60) (post := [.val 6 (vp (.bool true))]) (by kernel_rfl) hB (fun t w1 hA => ?_)
   exact (at_ret rfl hA (fun v hv => ⟨by rw [vp_is.1 hv], hA.below⟩) : bodyPost Tryz.prog Tryz.f9 (LF w) .ret t w1)
 · refine front_is hC (tt_ok hG hn hlen hs (decide_eq_false (by omega)) hh) 60 3 [.val 2 (op 2), .val 7 (op 0), .val 8 (op 1)] (by kernel_rfl) hB (fun t w1 hA => ?_)
   obtain ⟨⟨u2, g2, e2⟩, ⟨u7, g7, e7⟩, ⟨u8, g8, e8⟩, _⟩ := hA.items
   rw [(cE rfl).1 e2] at g2
   obtain ⟨rfl, o7⟩ := (op_isO rfl).1 e7
   obtain ⟨rfl, o8⟩ := (op_isO rfl).1 e8
   show (jc 8 b_lv).wp Tryz.prog _ _ _
   obtain ⟨_, s2, s3⟩ := hs 0 (by omega)
   exact tail8 (a := (ls.map nOf).getD 0 0) (b := (ls.map nOf).getD 1 0) (c := (ls.map nOf).getD 2 0) (lo := lI bx 0) (hi := hI bx 0) (x := tI bx pl 0) (hG.below hA.below hG.size) hA.below o7.ls o8.ls (L2.below hA.below) (by rw [List.length_map]; omega) (by rw [List.length_map]; omega) (by omega) rfl rfl rfl (getD_map' sOf ([], []) (0, 0) (by omega)) (siz_l1 (siz_nOf s2) (siz_nOf s3)) (siz_h1 (siz_nOf s2) (siz_nOf s3)) rfl (.inl (tI_in bx pl 0))
    ⟨Below.refl _ _, hA.defers, hA.size, ⟨⟨_, g2, (cE rfl).2 rfl⟩, ⟨_, g7, (cE rfl).2 rfl⟩, ⟨_, g8, (cE rfl).2 rfl⟩, trivial⟩, lim_at (lim_rest rfl)⟩
end
abbrev cl0v (B : Nat) (v0 v1 v2 : Value) (m n p : Nat) : List Cl := [clW v0, clW v1, clW v2, clV (ii (m : Int)), clV (ii (n : Int)), clV (ii (p : Int)), clN B qT 4 [], clN B sT 8 []]
noncomputable abbrev C0v (v0 v1 v2 : Value) (m n p : Nat) (w : World) : Ctx := mkC [1, 1, 1, 1, 1, 1, 1, 1] [false, false, false, true, true, true, false, false] [] 299 (cl0v w.heap.size v0 v1 v2 m n p) w
theorem c0v_ok {v0 v1 v2 : Value} {m n p : Nat} {w : World} (h0 : v0.oneCell' = true) (h1 : v1.oneCell' = true) (h2 : v2.oneCell' = true) : (C0v v0 v1 v2 m n p w).Ok :=
 mkC_ok (ci (cZ h0) <| ci (cZ h1) <| ci (cZ h2) <| ci (ju _) <| ci (ju _) <| ci (ju _) <| ci clN_ok <| ci clN_ok oks_nil) rfl rfl
abbrev lv0 : Ent := ⟨.blt .len [strsT] intT, [op 0], .val (op 3)⟩
abbrev lv1 : Ent := ⟨.blt .len [endsT] intT, [op 1], .val (op 4)⟩
abbrev lv2 : Ent := ⟨.blt .len [bsT] intT, [op 2], .val (op 5)⟩
abbrev gt8 (b : Bool) : Ent := ⟨.bin .gtr intT, [op 3, vp (ii 8)], .val (vp (.bool b))⟩
abbrev ne10 (b : Bool) : Ent := ⟨.bin .neq intT, [op 4, op 3], .val (vp (.bool b))⟩
abbrev lt21 (b : Bool) : Ent := ⟨.bin .lss intT, [op 5, op 4], .val (vp (.bool b))⟩
abbrev knv : Ent := ⟨.call 10, [], .val (vp (.bool true))⟩
abbrev mkQv : Ent := ⟨.bs 91 0, [], .val (op 6)⟩
abbrev mkSv : Ent := ⟨.bs 93 0, [], .val (op 7)⟩
set_option maxRecDepth 100000 in
set_option maxHeartbeats 1000000 in
theorem values_walk (v0 v1 v2 : Value) (ls : T8) (bx : TB) (pl : List UInt8) (w : World) (hG : Gr w) (L0 : Ls 1 w v0 (ls.map elTx)) (L1 : Ls 2 w v1 (bx.map elE)) (L2 : Ls 1 w v2 (pl.map elB)) : Calls Tryz.prog 9 #[v0, v1, v2] w (Go.Proofs.YtccabfblgjcboaaGreatDoor.Val w (.bool true)) := by
 have l0 : (ls.map elTx).length = ls.length := by simp
 have l1 : (bx.map elE).length = bx.length := by simp
 have l2 : (pl.map elB).length = pl.length := by simp
 have hC := c0v_ok (m := ls.length) (n := bx.length) (p := pl.length) (w := w) L0.one L1.one L2.one
 have k0 : lv0.Valid (C0v v0 v1 v2 ls.length bx.length pl.length w) := e_lenZ und_strs (pzW rfl L0) (by rw [l0]; exact rv rfl)
 have k1 : lv1.Valid (C0v v0 v1 v2 ls.length bx.length pl.length w) := e_lenZ und_ends (pzW rfl L1) (by rw [l1]; exact rv rfl)
 have k2 : lv2.Valid (C0v v0 v1 v2 ls.length bx.length pl.length w) := e_lenZ und_bs (pzW rfl L2) (by rw [l2]; exact rv rfl)
 have k3 : ∀ b, decide ((ls.length : Int) > 8) = b → (gt8 b).Valid (C0v v0 v1 v2 ls.length bx.length pl.length w) := fun b hb => e_gtr (pv rfl) pvl hb
 have k4 : ∀ b, decide ((bx.length : Int) ≠ (ls.length : Int)) = b → (ne10 b).Valid (C0v v0 v1 v2 ls.length bx.length pl.length w) := fun b hb => e_neq (pv rfl) (pv rfl) hb
 have k5 : ∀ b, decide ((pl.length : Int) < (bx.length : Int)) = b → (lt21 b).Valid (C0v v0 v1 v2 ls.length bx.length pl.length w) := fun b hb => e_lss (pv rfl) (pv rfl) hb
 have k6 : knv.Valid (C0v v0 v1 v2 ls.length bx.length pl.length w) := e_known hG
 have k7 : mkQv.Valid (C0v v0 v1 v2 ls.length bx.length pl.length w) := e_mk0 und_q' inf_q rfl
 have k8 : mkSv.Valid (C0v v0 v1 v2 ls.length bx.length pl.length w) := e_mk0 und_s' inf_s rfl
 have hargs : PatsAre (C0v v0 v1 v2 ls.length bx.length pl.length w) w [op 0, op 1, op 2] [v0, v1, v2] := ⟨_, _, rfl, (cE rfl).2 rfl, _, _, rfl, (cE rfl).2 rfl, _, _, rfl, (cE rfl).2 rfl, rfl⟩
 have go : ∀ {T : List Ent}, (∀ t ∈ T, t.Valid (C0v v0 v1 v2 ls.length bx.length pl.length w)) → runB (C0v v0 v1 v2 ls.length bx.length pl.length w).toStat T 60 (bodyOf Tryz.f9) Tryz.f9.results.toList [op 0, op 1, op 2] (.val (vp (.bool true))) = true → Calls Tryz.prog 9 #[v0, v1, v2] w (Go.Proofs.YtccabfblgjcboaaGreatDoor.Val w (.bool true)) := by
  intro T hT hr
  refine (run_mk hC hT 9 Tryz.f9 [op 0, op 1, op 2] (.val (vp (.bool true))) 60 Tryz.func9 rfl rfl rfl hr [v0, v1, v2] hargs).mono ?_
  rintro e w' ⟨v, rfl, hv, hb⟩
  rw [val_of hv]
  exact ⟨rfl, hb⟩
 by_cases c1 : 8 < ls.length
 · exact go (cg k0 <| cg (k3 true (decide_eq_true (by omega))) <| cg k6 cA) (by kernel_rfl)
 by_cases c2 : ¬ bx.length = ls.length
 · exact go (cg k0 <| cg (k3 false (decide_eq_false (by omega))) <| cg k1 <| cg (k4 true (decide_eq_true (by omega))) <| cg k6 cA) (by kernel_rfl)
 have c2 : bx.length = ls.length := Classical.not_not.1 c2
 by_cases c3 : pl.length < bx.length
 · exact go (cg k0 <| cg (k3 false (decide_eq_false (by omega))) <| cg k1 <| cg (k4 false (decide_eq_false (by omega))) <| cg k2 <| cg (k5 true (decide_eq_true (by omega))) <| cg k6 cA) (by kernel_rfl)
 refine calls_at (C := C0v v0 v1 v2 ls.length bx.length pl.length w) (f := 9) (args := [op 0, op 1, op 2]) Tryz.func9 (c := b_lv) rfl rfl (Nat.le_of_ble_eq_true rfl) (vs := [v0, v1, v2]) hargs (fun a hA => ?_)
 refine front_is hC (cg k0 <| cg (k3 false (decide_eq_false (by omega))) <| cg k1 <| cg (k4 false (decide_eq_false (by omega))) <| cg k2 <| cg (k5 false (decide_eq_false (by omega))) <| cg k6 <| cg k7 <| cg k8 cA) 60 3 [.val 0 (op 0), .val 1 (op 1), .val 2 (op 2), .val 7 (op 6), .val 8 (op 7)] (by kernel_rfl) hA (fun a w1 hA => ?_)
 obtain ⟨⟨u0, g0, e0⟩, ⟨u1, g1, e1⟩, ⟨u2, g2, e2⟩, ⟨z7, g7, e7⟩, ⟨z8, g8, e8⟩, _⟩ := hA.items
 rw [(cE rfl).1 e0] at g0
 rw [(cE rfl).1 e1] at g1
 rw [(cE rfl).1 e2] at g2
 have o7 := (op_isN rfl).1 e7
 have o8 := (op_isN rfl).1 e8
 have hV := cv_ok (ls := ls) (bx := bx) (pl := pl) (j := 0) (i := 0) (w := w) L0.one L1.one L2.one o7.one o8.one
 have hB : At (Cva v0 v1 v2 z7 z8 ls bx pl 0 0 w) [.val 0 (op 2), .val 1 (op 3), .val 2 (op 4), .val 7 (op 0), .val 8 (op 1)] a w1 := ⟨hA.below, hA.defers, hA.size, ⟨⟨_, g0, (cE rfl).2 rfl⟩, ⟨_, g1, (cE rfl).2 rfl⟩, ⟨_, g2, (cE rfl).2 rfl⟩, ⟨_, g7, (op_isO (es := []) rfl).2 ⟨rfl, o7⟩⟩, ⟨_, g8, (op_isO (es := []) rfl).2 ⟨rfl, o8⟩⟩, trivial⟩, lim_at (lim_O (es := []) o7 (lim_O (es := []) o8 (lim_rest rfl)))⟩
 clear hA g0 g1 g2 g7 g8 e0 e1 e2 e7 e8
 refine front_is hV (T := []) cA 60 1 [.val 0 (op 2), .val 1 (op 3), .val 2 (op 4), .val 7 (op 0), .val 8 (op 1), .box 9 qT zQ4, .box 10 qT zQ4, .box 11 qT zQ4] (by kernel_rfl) hB (fun a w1 hA => ?_)
 show (Code.seq (Code.seq (seqL x1_lv) (.block 0 (.loop l1_lv))) (jc 5 b_lv)).wp Tryz.prog _ _ _
 refine wp_seq (wp_seq (jf hV (T := []) cA (x := .normal) (n := 30) (post := [.val 0 (op 2), .val 1 (op 3), .val 2 (op 4), .val 7 (op 0), .val 8 (op 1), .box 9 qT zQ4, .box 10 qT zQ4, .box 11 qT zQ4, .val 12 (vp (ii 0))]) (by kernel_rfl) hA (fun a w1 hA => ?_)))
 have hA := hA.turn (is' := I1) (fun ⟨g1, g2, g3, g4, g5, ka, va, a1, a2, a3, a4, a5, kb, vb, b1, b2, b3, b4, b5, kc, vc, c1, c2, c3, c4, c5, ⟨s, s1, s2⟩, _⟩ => ⟨g1, g2, g3, g4, g5, ka, va, a1, a2, a3, a4, zq_cls rfl (Nat.le_refl _) a5, kb, vb, b1, b2, b3, b4, zq_cls rfl (Nat.le_refl _) b5, kc, vc, c1, c2, c3, c4, zq_cls rfl (Nat.le_refl _) c5, ⟨s, s1, (op_is rfl).2 (vp_is.1 s2)⟩, trivial⟩)
 exact loopv hG L0 L1 L2 (by omega) c2 (by omega) hA (fun z7 z8 a w1 hs hA => tail5 hG L2 (by omega) c2 (by omega) hs hA)
end Sym
open Go Go.RowKit Go.Proofs Lim
open Go.ChangeShapes Go.WideShapes Go.ChangeAt Go.ChangeMaps
namespace lawExactValues
set_option maxRecDepth 100000 in
theorem contract (H : Type) (enc : TypeId × Value → H) (W : World) (base : Nat) (args : Array Value) (ds gs : List (DataW H)) (before : List MemPlace)
 (hval : ∀ (j : Nat) t v, Tryz.f9.params[j]? = some t → args[j]? = some v → Value.okWide Tryz.prog W .any base t v)
 (hW : DataW.Whole enc Tryz.prog Tryz.f9.params.toList Rows.exactValuesSpec.vars false W args.toList ds gs before) (hG : Gr W) :
 Calls Tryz.prog 9 args W fun e W' => ∃ v, e = .returned v ∧ Rows.exactValuesSpec.post enc Tryz.prog Tryz.f9 false true false false W args v W' := by
 have hW' := hW
 obtain ⟨p, q, hA0, hV, rfl, hfz, hnd⟩ := hW
 have hA : DataW.TrodAll enc Tryz.prog W 0 (fun _ => true) true Tryz.f9.params.toList args.toList ds p := hA0
 rw [Tryz.params9] at hA hval
 obtain ⟨v0, vs0, d0, ds0, p0, q0, hargs0, rfl, rfl, h0, r0⟩ := trodAll_cons hA
 obtain ⟨v1, vs1, d1, ds1, p1, q1, hargs1, rfl, rfl, h1, r1⟩ := trodAll_cons r0
 obtain ⟨v2, vs2, d2, ds2, p2, q2, hargs2, rfl, rfl, h2, r2⟩ := trodAll_cons r1
 obtain ⟨rfl, rfl, rfl⟩ := trodAll_nil r2
 obtain rfl : args = #[v0, v1, v2] := by cases args; simp_all
 obtain ⟨rfl, rfl⟩ := trodVars_none hV
 have hlt0 : ∀ x ∈ p0, x.block < W.heap.size := fun x hx => by simpa using hW'.lt x (by simp [hx])
 have hlt1 : ∀ x ∈ p1, x.block < W.heap.size := fun x hx => by simpa using hW'.lt x (by simp [hx])
 have hlt2 : ∀ x ∈ p2, x.block < W.heap.size := fun x hx => by simpa using hW'.lt x (by simp [hx])
 obtain ⟨ls, hls⟩ := Sym.open_texts (hval 0 89 v0 rfl rfl) h0
 obtain ⟨bx, hbx⟩ := Sym.open_boxes (hval 1 90 v1 rfl rfl) h1
 obtain ⟨pl, hpl⟩ := Sym.open_places (hval 2 100 v2 rfl rfl) h2
 clear hA0
 have walk := Sym.values_walk v0 v1 v2 ls bx pl W hG hls hbx hpl
 refine walk.mono fun e W' ⟨he, hb⟩ => ?_
 subst he
 refine ⟨_, rfl, _, _, _, [], p0 ++ (p1 ++ (p2 ++ [])), [], hW', ?_, ?_, ?_, hb.frame _, fun h => by cases h⟩
 · exact trodAll_cons_mk (shut_bool Tryz.underlying4 _) trodAll_mk0
 · exact trodAll_cons_mk (Below.trod laidOut (by kernel_rfl) (of_decide_eq_true (by kernel_rfl)) h0 hb hlt0) (trodAll_cons_mk (Below.trod laidOut (by kernel_rfl) (of_decide_eq_true (by kernel_rfl)) h1 hb hlt1) (trodAll_cons_mk (Below.trod laidOut (by kernel_rfl) (of_decide_eq_true (by kernel_rfl)) h2 hb hlt2) trodAll_mk0))
 · trivial
theorem reads (os : Os) {H : Type} (enc : TypeId × Value → H) : ∃ places, DataW.whole enc Tryz.prog ((World.doorLaid Tryz.prog 400 os).forCall (fun _ _ => 0) ⟨#[], #[.slice none 0 0, .slice none 0 0, .slice none 0 0], []⟩).memory Tryz.f9.params.toList Rows.exactValuesSpec.vars false #[Value.slice none 0 0, Value.slice none 0 0, Value.slice none 0 0].toList 8 = some ([.nil, .nil, .nil], [], places) :=
 ⟨[], by kernel_rfl⟩
set_option maxRecDepth 100000 in
theorem lifted (os : Os) (started : os.Started) (H : Type) (enc : TypeId × Value → H) (F : Stop.Interp) :
 ReturnsInHanded {} Tryz.checked os 9 .any ((OpenSpec.ofChange Rows.exactValuesSpec).preRow enc Tryz.prog Tryz.f9 Rows.exactValuesRow.domain false Rows.exactValuesRow.laid) (((OpenSpec.ofChange Rows.exactValuesSpec).at F).post enc Tryz.prog Tryz.f9 false true false false) := by
 obtain ⟨places, hx⟩ := reads os enc
 refine returnsInHanded_of_row (C := Tryz.checked) (s := OpenSpec.ofChange Rows.exactValuesSpec) own started (by kernel_rfl) Tryz.func9
  (witness_row_atRef (enc := enc) (C := Tryz.checked) false (World.doorLaid Tryz.prog 400 os) #[Value.slice none 0 0, Value.slice none 0 0, Value.slice none 0 0] rfl (by kernel_rfl) (by kernel_rfl) (by kernel_rfl)
   (OpenSpec.preRow_of_cond 8 hx (by kernel_rfl) (fun k hk => by cases hk) (by kernel_rfl) (door_met os _))) ?_
 intro W base args ds gs before hval hW _ _ _ hL hS _
 exact contract H enc W base args ds gs before hval hW (gr_of_laid hL hS)
theorem said : Rows.ExactValuesSaid :=
 OpenClaim.holds_of_cond 9 Tryz.f9 rfl rfl rfl rfl rfl rfl rfl ⟨rfl, rfl, rfl, rfl, rfl⟩ rfl rfl rfl rfl rfl (by kernel_rfl) Tryz.func9 (by kernel_rfl)
  (of_decide_eq_true (by kernel_rfl)) (by unfold Func.isWrapper; first | (rw [if_pos (by decide +kernel)]; kernel_rfl) | (rw [if_neg (by decide +kernel)]; exact ⟨rfl, rfl⟩))
  (fun os started H enc _ F => by rw [OpenClaim.pre_eq_preRow]; exact lifted os started H enc F)
theorem plain (f : FuncId) (fn : Func) (hf : Tryz.pinned.checked.prog.funcNamed "voussoir/voussoirlaw01.ExactValues" = some f) (hfn : Tryz.pinned.checked.prog.funcs[f]? = some fn) :
 true = Tryz.pinned.checked.prog.looks [] ∧ ∀ (j : Nat) t, fn.params[j]? = some t → Tryz.pinned.checked.prog.wantsStandIn t = false := by
 obtain rfl : f = 9 := Option.some.inj ((show Tryz.prog.funcNamed "voussoir/voussoirlaw01.ExactValues" = some 9 by kernel_rfl).symm.trans hf) |>.symm
 obtain rfl : fn = Tryz.f9 := (Option.some.inj (Tryz.func9.symm.trans hfn)).symm
 refine ⟨by kernel_rfl, fun j t ht => ?_⟩
 rw [Tryz.params9] at ht
 have hm : t ∈ [89, 90, 100] := by simpa using Array.mem_of_getElem? ht
 have hall : ([89, 90, 100].all fun u => !Tryz.prog.wantsStandIn u) = true := by kernel_rfl
 exact (show Tryz.prog.wantsStandIn t = false by simpa using List.all_eq_true.1 hall t hm)
theorem card : Rows.ExactValuesCardSaid :=
 Claim7.holds_tied_plain_at .later [] _ _ _ _ said (fun _ h => by cases h) (by kernel_rfl) (fun _ h => by cases h) exactValues_row_tie rfl ⟨rfl, rfl⟩ (by kernel_rfl) rfl plain (by kernel_rfl)
end lawExactValues
end Go.Proofs.YtccabfblgjcboaaGreatDoor
