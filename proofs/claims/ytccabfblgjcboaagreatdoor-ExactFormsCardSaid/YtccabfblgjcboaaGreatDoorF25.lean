/- Package exact: RefSum RefRest RefW RefProd RefX. -/
import Derived.Test.YtccabfblgjcboaaGreatDoorF4
import Derived.Laws.OwnMore
import Derived.OwnWalk
set_option linter.all false

namespace Go.Proofs.YtccabfblgjcboaaGreatDoor
open Go Go.RowKit Go.Proofs Lim
namespace Sym
abbrev vl_sum (x y z : Value) (ds es : List Nat) (i c : Nat) : List Value := [x, y, z, ii (c : Int), ii (i : Int), ii (ds.length : Int), ii (es.length : Int), ii ((ds.getD i 0 : Nat) : Int), ii ((es.getD i 0 : Nat) : Int), ii ((ds.getD i 0 + es.getD i 0 : Nat) : Int), ii ((ds.getD i 0 + es.getD i 0 + c : Nat) : Int), ii (((ds.getD i 0 + es.getD i 0 + c) % 10000 : Nat) : Int), ii (((ds.getD i 0 + es.getD i 0 + c) / 10000 : Nat) : Int), ii ((i + 1 : Nat) : Int)]
def t_sum (b1 b2 b3 : Bool) : List cW := [⟨.blt .len [31] 3, [op 0], .val (op 5)⟩, ⟨.blt .len [31] 3, [op 1], .val (op 6)⟩, ⟨.bin .lss 3, [op 4, op 5], .val (vp (.bool b1))⟩, ⟨.bin .lss 3, [op 4, op 6], .val (vp (.bool b2))⟩, ⟨.bin .gtr 3, [op 3, vp (ii 0)], .val (vp (.bool b3))⟩,
 ⟨.call 127, [op 0, op 4], .val (op 7)⟩, ⟨.call 127, [op 1, op 4], .val (op 8)⟩, ⟨.bin .add 3, [op 7, op 8], .val (op 9)⟩, ⟨.bin .add 3, [op 9, op 3], .val (op 10)⟩, ⟨.bin .rem 3, [op 10, vp (ii 10000)], .val (op 11)⟩, ⟨.bin .quo 3, [op 10, vp (ii 10000)], .val (op 12)⟩, ⟨.bin .add 3, [op 4, vp (ii 1)], .val (op 13)⟩]
theorem sum_one {x y z : Value} (hx : x.oneCell' = true) (hy : y.oneCell' = true) (hz : z.oneCell' = true) (ds es : List Nat) (i c : Nat) : ∀ v ∈ vl_sum x y z ds es i c, v.oneCell' = true :=
 cg hx (cg hy (cg hz (cg rfl (cg rfl (cg rfl (cg rfl (cg rfl (cg rfl (cg rfl (cg rfl (cg rfl (cg rfl (cg rfl cR)))))))))))))
theorem sum_T {x y z : Value} {ds es : List Nat} {w : World} (hx : Dg w x ds) (hy : Dg w y es) (hds : Dig ds) (hes : Dig es) {i c : Nat} (hc : c ≤ 1) (hi : i < 1000000000) {b1 b2 b3 : Bool} (h1 : decide (i < ds.length) = b1) (h2 : decide (i < es.length) = b2) (h3 : decide (0 < c) = b3) : ∀ t ∈ t_sum b1 b2 b3, t.Valid (CV 44 (vl_sum x y z ds es i c) w) :=
 have hd := hds i
 have he := hes i
 ca (e_len cU (pdW rfl hx) (kn rfl)) (ca (e_len cU (pdW rfl hy) (kn rfl)) (ca (kj (jj rfl) (jj rfl) (by rw [← h1]; simp)) (ca (kj (jj rfl) (jj rfl) (by rw [← h2]; simp)) (ca (kw (jj rfl) jR (by rw [← h3]; simp))
  (ca (e_digit (i := i) (pdW rfl hx) (jj rfl) (kn rfl)) (ca (e_digit (i := i) (pdW rfl hy) (jj rfl) (kn rfl)) (ca (e_add (by omega) (jj rfl) (jj rfl) (kn rfl) (by omega)) (ca (e_add (by omega) (jj rfl) (jj rfl) (kn rfl) (by omega))
   (ca (e_rem (k := .i64) (n := 10000) (jj rfl) jR (kn rfl) (by decide)) (ca (e_quo (k := .i64) (n := 10000) (jj rfl) jR (kn rfl) (by decide) (by rw [IntKind.wrap_i64]; omega)) (ca (e_add (by omega) (jj rfl) jR (kn rfl) (by omega)) ce)))))))))))
noncomputable def b_sum : Code := bodyOf Tryz.f94
noncomputable def l_sum : Code := cP (cP (cq (cI (cq (cq (cq b_sum))))))
theorem Dg.one {w : World} {v : Value} {ds : List Nat} (h : Dg w v ds) : v.oneCell' = true := by
 obtain ⟨ao, cap, rfl, _⟩ := h
 rfl
theorem sum_ok (x y : Value) (ds es : List Nat) (w : World) (hx : Dg w x ds) (hy : Dg w y es) (hds : Dig ds) (hes : Dig es) (hl1 : ds.length < 100000000) (hl2 : es.length < 100000000) : Calls Tryz.prog 94 #[x, y] w (fun e w' => ∃ v, e = .returned v ∧ Dg w' v (digs (cG ds + cG es)) ∧ Below w.heap.size w w') := by
 refine calls_v2 (nt := 44) (f := 94) Tryz.func94 (c := .seq (cI b_sum) (.seq (cI (cq b_sum)) (.seq (cI (cq (cq b_sum))) (.seq (.seq (cI (cI (cq (cq (cq b_sum))))) (.block 0 (.loop l_sum))) (cq (cq (cq (cq b_sum)))))))) rfl rfl rfl x y (fun a hs => ?_)
 have one2 : ∀ v ∈ [x, y], v.oneCell' = true := cg hx.one (cg hy.one cR)
 refine wp_seq (cZ (T := []) [(0, 0), (1, 1)] [(0, 0), (1, 1)] (n := 30) (x := .normal) one2 ce hs (by kernel_rfl) rfl rfl (fun a1 w1 hs hb1 => ?_))
 refine wp_seq ?_
 show (Code.region 1 [_, _].toArray false).wp Tryz.prog _ _ _
 refine empty_v [(0, 0), (1, 1)] (d := 9) (t := 5) hs rfl rfl rfl rfl rfl rfl rfl rfl rfl rfl (B := w.heap.size) hb1.size (fun z a2 w2 hz hown hs hb2 => ?_)
 have hb2 := hb1.trans (hb2.mono hb1.size)
 have hs : kl 44 [x, y, z] [(5, 2), (0, 0), (1, 1)] a2 := ⟨hs.defers, hs.size, hz, hs.sl⟩
 have one3 : ∀ v ∈ [x, y, z], v.oneCell' = true := cg hx.one (cg hy.one (cg hown.one cR))
 refine wp_seq (seg_vl (T := []) [(5, 2), (0, 0), (1, 1)] [(5, 2), (0, 0), (1, 1)] [(6, ii 0)] (n := 30) (x := .normal) one3 ce hs (by kernel_rfl) rfl rfl (fun a3 w3 hs hl6 hb3 => ?_))
 have hs : kl 44 [x, y, z, ii 0] [(5, 2), (0, 0), (1, 1), (6, 3)] a3 := ⟨hs.defers, hs.size, hs.sl.1, hs.sl.2.1, hs.sl.2.2.1, hl6.1, trivial⟩
 have one4 : ∀ v ∈ [x, y, z, ii 0], v.oneCell' = true := cg hx.one (cg hy.one (cg hown.one (cg rfl cR)))
 refine wp_seq (wp_seq (seg_vl (T := []) [(5, 2), (0, 0), (1, 1), (6, 3)] [(5, 2), (0, 0), (1, 1), (6, 3)] [(7, ii 0)] (n := 30) (x := .normal) one4 ce hs (by kernel_rfl) rfl rfl (fun a4 w4 hs hl7 hb4 => ?_)))
 have hown := (hown.below hb3).below hb4
 have hb4 := (hb2.trans (hb3.mono hb2.size)).trans (hb4.mono (Nat.le_trans hb2.size hb3.size))
 have hs : kl 44 (vl_sum x y z ds es 0 0) [(0, 0), (1, 1), (5, 2), (6, 3), (7, 4)] a4 := ⟨hs.defers, hs.size, hs.sl.2.1, hs.sl.2.2.1, hs.sl.1, hs.sl.2.2.2.1, hl7.1, trivial⟩
 refine jz (Θ := Nat × Nat) (fun θ a w1 => ∃ z l, θ.2 ≤ 1 ∧ (θ.1 ≤ max ds.length es.length ∨ θ.1 = max ds.length es.length + 1 ∧ θ.2 = 0) ∧ l.length = θ.1 ∧ (∀ d ∈ l, d < 10000) ∧ cG ds + cG es = cG l + 10000 ^ θ.1 * (cG (ds.drop θ.1) + cG (es.drop θ.1) + θ.2) ∧ kl 44 (vl_sum x y z ds es θ.1 θ.2) [(0, 0), (1, 1), (5, 2), (6, 3), (7, 4)] a ∧ Own w.heap.size w1 z l ∧ Below w.heap.size w w1) (fun θ => 2 * (max ds.length es.length - θ.1) + θ.2) ?_ (0, 0) ⟨z, [], by simp, .inl (Nat.zero_le _), rfl, by simp, by simp [cG], hs, hown, hb4⟩
 rintro ⟨i, c⟩ a w1 ⟨z, l, hc, hi, hll, hdl, hnat, hs, hown, hb⟩
 have hx1 := hx.below hb (Nat.le_refl _)
 have hy1 := hy.below hb (Nat.le_refl _)
 have one := sum_one hx.one hy.one hown.one ds es i c
 have hi' : i < 1000000000 := by
  rcases hi with hi | ⟨hi, _⟩
  · have hi : i ≤ max ds.length es.length := hi
    omega
  · have hi : i = max ds.length es.length + 1 := hi
    omega
 by_cases hend : ¬ i < ds.length ∧ ¬ i < es.length ∧ ¬ 0 < c
 · obtain ⟨e1, e2, e3⟩ := hend
   refine wp_seq (cZ [(0, 0), (1, 1), (5, 2), (6, 3), (7, 4)] [(5, 2)] (n := 30) (x := .exit 0) one (sum_T (z := z) hx1 hy1 hds hes hc hi' (decide_eq_false e1) (decide_eq_false e2) (decide_eq_false e3)) hs (by kernel_rfl) rfl rfl (fun a5 w5 hs hb5 => ?_))
   have hown := hown.below hb5
   have hb := hb.trans (hb5.mono hb.size)
   have hs : kl 44 [z] [(5, 0)] a5 := ⟨hs.defers, hs.size, hs.sl⟩
   have hC : (mkC [1, 1] [false, false] [] 44 [clW z, ko (jH l)] w5).Ok := cL (cb (jf hown.one) (cb (cF noT _) cD)) rfl rfl
   have hT : ∀ t ∈ [(⟨.call 123, [op 0], .val (op 1)⟩ : cW)], t.Valid (mkC [1, 1] [false, false] [] 44 [clW z, ko (jH l)] w5) := ca (e_trim (pdW rfl hown.dg) (rd rfl)) ce
   refine seg_vd (vl := [z]) [(5, 0)] [] (t := 4) (ds := jH l) hC hT hs 1 (fun i hi => ?_) rfl (n := 30) (x := .ret) (by kernel_rfl) rfl rfl (fun a6 w6 v h4 hv hs hb6 => ret_v rfl hs.defers h4 ⟨v, rfl, ?_, hb.trans (hb6.mono hb.size)⟩)
   · have hi : i < 1 := hi
     obtain rfl : i = 0 := by omega
     rfl
   · rw [hnat, kf (by omega), kf (by omega), show c = 0 by omega]
     simp only [Nat.add_zero, Nat.mul_zero]
     rw [digs_nat hdl]
     exact hv
 · have key : ∀ (Q' : Exit → Act → World → Prop), (∀ a' w', kl 44 (vl_sum x y z ds es i c) [(0, 0), (1, 1), (5, 2), (6, 3), (7, 4)] a' → Below w1.heap.size w1 w' → Q' .normal a' w') → (cI l_sum).wp Tryz.prog Q' a w1 := by
    intro Q' hQ
    cases h1 : decide (i < ds.length) <;> cases h2 : decide (i < es.length) <;> cases h3 : decide (0 < c)
    · exfalso
      have h1 := of_decide_eq_false h1
      have h2 := of_decide_eq_false h2
      have h3 := of_decide_eq_false h3
      exact hend ⟨h1, h2, h3⟩
    all_goals exact cZ [(0, 0), (1, 1), (5, 2), (6, 3), (7, 4)] [(0, 0), (1, 1), (5, 2), (6, 3), (7, 4)] (n := 30) (x := .normal) one (sum_T (z := z) hx1 hy1 hds hes hc hi' h1 h2 h3) hs (by kernel_rfl) rfl rfl hQ
   have hdi := hds i
   have hei := hes i
   refine wp_seq (key _ (fun a5 w5 hs hb5 => ?_))
   have hown := hown.below hb5
   have hb := hb.trans (hb5.mono hb.size)
   refine wp_seq (wp_block (wp_seq (cZ [(0, 0), (1, 1), (5, 2), (6, 3), (7, 4)] [(0, 0), (1, 1), (5, 2), (7, 4), (8, 10)] (n := 30) (x := .normal) one (sum_T (z := z) (hx.below hb (Nat.le_refl _)) (hy.below hb (Nat.le_refl _)) hds hes hc hi' rfl rfl rfl) hs (by kernel_rfl) rfl rfl (fun a6 w6 hs hb6 => ?_))))
   have hown := hown.below hb6
   have hb := hb.trans (hb6.mono hb.size)
   refine wp_seq ?_
   show (Code.region 7 (opsOf (cI (cq (cP (cI (cq l_sum)))))).toArray false).wp Tryz.prog _ _ _
   refine push_v [(0, 0), (1, 1), (5, 2), (7, 4), (8, 10)] [(0, 0), (1, 1), (7, 4), (8, 10)] 4 (s := 35) (x := 38) (d := 39) (t := 5) (cd := 11) (z := z) (ds := l) (dg := (ds.getD i 0 + es.getD i 0 + c) % 10000) one (sum_T (z := z) (hx.below hb (Nat.le_refl _)) (hy.below hb (Nat.le_refl _)) hds hes hc hi' rfl rfl rfl) hs 2 (by kernel_rfl) rfl rfl rfl rfl rfl rfl rfl rfl rfl rfl rfl rfl rfl rfl rfl hown hb.size (by omega) (fun z' a7 w7 h5 hown hs hb7 => ?_)
   have hb := hb.trans hb7
   have one := sum_one hx.one hy.one hown.one ds es i c
   have hs : kl 44 (vl_sum x y z' ds es i c) [(0, 0), (1, 1), (5, 2), (7, 4), (8, 10)] a7 := ⟨hs.defers, hs.size, hs.sl.1, hs.sl.2.1, h5, hs.sl.2.2⟩
   refine cZ [(0, 0), (1, 1), (5, 2), (7, 4), (8, 10)] [(0, 0), (1, 1), (5, 2), (6, 12), (7, 4)] (n := 30) (x := .normal) one (sum_T (z := z') (hx.below hb (Nat.le_refl _)) (hy.below hb (Nat.le_refl _)) hds hes hc hi' rfl rfl rfl) hs (by kernel_rfl) rfl rfl (fun a8 w8 hs hb8 => ?_)
   have hown := hown.below hb8
   have hb := hb.trans (hb8.mono hb.size)
   show (cq (cq l_sum)).wp Tryz.prog _ _ _
   refine cZ [(0, 0), (1, 1), (5, 2), (6, 12), (7, 4)] [(0, 0), (1, 1), (5, 2), (6, 12), (7, 13)] (n := 30) (x := .normal) one (sum_T (z := z') (hx.below hb (Nat.le_refl _)) (hy.below hb (Nat.le_refl _)) hds hes hc hi' rfl rfl rfl) hs (by kernel_rfl) rfl rfl (fun a9 w9 hs hb9 => ?_)
   have hown := hown.below hb9
   have hb := hb.trans (hb9.mono hb.size)
   refine ⟨(i + 1, (ds.getD i 0 + es.getD i 0 + c) / 10000), ⟨z', l ++ [(ds.getD i 0 + es.getD i 0 + c) % 10000], ?_, ?_, ?_, ?_, ?_, ⟨hs.defers, hs.size, hs.sl⟩, hown, hb⟩, ?_⟩
   · show (ds.getD i 0 + es.getD i 0 + c) / 10000 ≤ 1
     omega
   · by_cases h : i < ds.length ∨ i < es.length
     · exact .inl (by show i + 1 ≤ _; omega)
     · have e1 : ds.getD i 0 = 0 := by rw [List.getD_eq_getElem?_getD, List.getElem?_eq_none (by omega)]; rfl
       have e2 : es.getD i 0 = 0 := by rw [List.getD_eq_getElem?_getD, List.getElem?_eq_none (by omega)]; rfl
       refine .inr ⟨?_, ?_⟩
       · show i + 1 = _
         omega
       · show (ds.getD i 0 + es.getD i 0 + c) / 10000 = 0
         omega
   · simp [hll]
   · intro d hd
     rcases List.mem_append.1 hd with h | h
     · exact hdl d h
     · have : d = (ds.getD i 0 + es.getD i 0 + c) % 10000 := by simpa using h
       omega
   · rw [hnat, nat_snoc, nat_drop ds i, nat_drop es i, hll]
     simp only
     generalize cG (ds.drop (i + 1)) = da
     generalize cG (es.drop (i + 1)) = ea
     have hs := Nat.mod_add_div (ds.getD i 0 + es.getD i 0 + c) 10000
     generalize (ds.getD i 0 + es.getD i 0 + c) / 10000 = q at hs ⊢
     generalize (ds.getD i 0 + es.getD i 0 + c) % 10000 = r at hs ⊢
     rw [Nat.pow_succ, Nat.mul_assoc (10000 ^ i), Nat.add_assoc (cG l), ← Nat.mul_add]
     congr 2
     omega
   · show 2 * (max ds.length es.length - (i + 1)) + (ds.getD i 0 + es.getD i 0 + c) / 10000 < 2 * (max ds.length es.length - i) + c
     by_cases h : i < ds.length ∨ i < es.length
     · omega
     · have e1 : ds.getD i 0 = 0 := by rw [List.getD_eq_getElem?_getD, List.getElem?_eq_none (by omega)]; rfl
       have e2 : es.getD i 0 = 0 := by rw [List.getD_eq_getElem?_getD, List.getElem?_eq_none (by omega)]; rfl
       omega
end Sym
open Go Go.RowKit Go.Proofs Lim
namespace Sym
abbrev vl_rest (x y z : Value) (ds es : List Nat) (i b : Nat) (dd : Nat) : List Value := [x, y, z, ii (b : Int), ii (i : Int), ii (ds.length : Int), jI x i, ii ((ds.getD i 0 : Nat) : Int), ii ((es.getD i 0 : Nat) : Int), ii (((ds.getD i 0 : Nat) : Int) - ((es.getD i 0 : Nat) : Int)), ii (((ds.getD i 0 : Nat) : Int) - ((es.getD i 0 : Nat) : Int) - (b : Int)), ii (dd : Int), ii ((i + 1 : Nat) : Int), ii 0]
def t_rest0 : List cW := [⟨.blt .len [31] 3, [op 0], .val (op 5)⟩, ⟨.bin .lss 3, [op 4, op 5], .val (vp (.bool false))⟩]
def t_rest (b2 : Bool) : List cW := [⟨.blt .len [31] 3, [op 0], .val (op 5)⟩, ⟨.bin .lss 3, [op 4, op 5], .val (vp (.bool true))⟩, ⟨.ix 31, [op 0, op 4], .val (op 6)⟩, ⟨.ld 3, [op 6], .val (op 7)⟩, ⟨.call 127, [op 1, op 4], .val (op 8)⟩, ⟨.bin .sub 3, [op 7, op 8], .val (op 9)⟩, ⟨.bin .sub 3, [op 9, op 3], .val (op 10)⟩,
 ⟨.bin .lss 3, [op 10, vp (ii 0)], .val (vp (.bool b2))⟩, ⟨.bin .add 3, [op 4, vp (ii 1)], .val (op 12)⟩]
def t_restB : List cW := [⟨.bin .add 3, [op 10, vp (ii 10000)], .val (op 11)⟩]
theorem rest_one {x y z : Value} (hx : x.oneCell' = true) (hy : y.oneCell' = true) (hz : z.oneCell' = true) (ds es : List Nat) (i b dd : Nat) : ∀ v ∈ vl_rest x y z ds es i b dd, v.oneCell' = true :=
 cg hx (cg hy (cg hz (cg rfl (cg rfl (cg rfl (cg (jy _ _) (cg rfl (cg rfl (cg rfl (cg rfl (cg rfl (cg rfl (cg rfl cR)))))))))))))
theorem rest_T {x y z : Value} {ds es : List Nat} {w : World} (hx : Dg w x ds) (hy : Dg w y es) (hds : Dig ds) (hes : Dig es) {i b dd : Nat} (hb : b ≤ 1) (hi : i < ds.length) (hl : ds.length < 1000000000) {b2 : Bool} (h2 : decide (ds.getD i 0 < es.getD i 0 + b) = b2) : ∀ t ∈ t_rest b2, t.Valid (CV 36 (vl_rest x y z ds es i b dd) w) :=
 have hd := hds i
 have he := hes i
 ca (e_len cU (pdW rfl hx) (kn rfl)) (ca (kj (jj rfl) (jj rfl) (decide_eq_true (by omega))) (ca (e_ixW cU elem_nat (jj rfl) hx (jj rfl) hi (kn rfl)) (ca (e_ldW (jj rfl) hx hi (kn rfl)) (ca (e_digit (i := i) (pdW rfl hy) (jj rfl) (kn rfl))
  (ca (e_sub rfl (jj rfl) (jj rfl) (kn rfl) (by omega)) (ca (e_sub rfl (jj rfl) (jj rfl) (kn rfl) (by omega)) (ca (kj (jj rfl) jR (by rw [← h2]; congr 1; apply propext; constructor <;> intro h <;> omega)) (ca (e_add (by omega) (jj rfl) jR (kn rfl) (by omega)) ce))))))))
noncomputable def b_rest : Code := bodyOf Tryz.f95
noncomputable def l_rest : Code := cP (cP (cq (cI (cq (cq (cq b_rest))))))
theorem rest_ok (x y : Value) (ds es : List Nat) (w : World) (hx : Dg w x ds) (hy : Dg w y es) (hds : Dig ds) (hes : Dig es) (hl1 : ds.length < 100000000) (hl2 : es.length ≤ ds.length) (hle : cG es ≤ cG ds) : Calls Tryz.prog 95 #[x, y] w (fun e w' => ∃ v, e = .returned v ∧ Dg w' v (digs (cG ds - cG es)) ∧ (∀ k, v.ownBlock = some k → w.heap.size ≤ k) ∧ Below w.heap.size w w') := by
 refine calls_v2 (nt := 36) (f := 95) Tryz.func95 (c := .seq (cI b_rest) (.seq (cI (cq b_rest)) (.seq (cI (cq (cq b_rest))) (.seq (.seq (cI (cI (cq (cq (cq b_rest))))) (.block 0 (.loop l_rest))) (cq (cq (cq (cq b_rest)))))))) rfl rfl rfl x y (fun a hs => ?_)
 have one2 : ∀ v ∈ [x, y], v.oneCell' = true := cg hx.one (cg hy.one cR)
 refine wp_seq (cZ (T := []) [(0, 0), (1, 1)] [(0, 0), (1, 1)] (n := 30) (x := .normal) one2 ce hs (by kernel_rfl) rfl rfl (fun a1 w1 hs hb1 => ?_))
 refine wp_seq ?_
 show (Code.region 1 [_, _].toArray false).wp Tryz.prog _ _ _
 refine empty_v [(0, 0), (1, 1)] (d := 9) (t := 5) hs rfl rfl rfl rfl rfl rfl rfl rfl rfl rfl (B := w.heap.size) hb1.size (fun z a2 w2 hz hown hs hb2 => ?_)
 have hb2 := hb1.trans (hb2.mono hb1.size)
 have hs : kl 36 [x, y, z] [(5, 2), (0, 0), (1, 1)] a2 := ⟨hs.defers, hs.size, hz, hs.sl⟩
 have one3 : ∀ v ∈ [x, y, z], v.oneCell' = true := cg hx.one (cg hy.one (cg hown.one cR))
 refine wp_seq (seg_vl (T := []) [(5, 2), (0, 0), (1, 1)] [(5, 2), (0, 0), (1, 1)] [(6, ii 0)] (n := 30) (x := .normal) one3 ce hs (by kernel_rfl) rfl rfl (fun a3 w3 hs hl6 hb3 => ?_))
 have hs : kl 36 [x, y, z, ii 0] [(5, 2), (0, 0), (1, 1), (6, 3)] a3 := ⟨hs.defers, hs.size, hs.sl.1, hs.sl.2.1, hs.sl.2.2.1, hl6.1, trivial⟩
 have one4 : ∀ v ∈ [x, y, z, ii 0], v.oneCell' = true := cg hx.one (cg hy.one (cg hown.one (cg rfl cR)))
 refine wp_seq (wp_seq (seg_vl (T := []) [(5, 2), (0, 0), (1, 1), (6, 3)] [(5, 2), (0, 0), (1, 1), (6, 3)] [(7, ii 0)] (n := 30) (x := .normal) one4 ce hs (by kernel_rfl) rfl rfl (fun a4 w4 hs hl7 hb4 => ?_)))
 have hown := (hown.below hb3).below hb4
 have hb4 := (hb2.trans (hb3.mono hb2.size)).trans (hb4.mono (Nat.le_trans hb2.size hb3.size))
 have hs : kl 36 (vl_rest x y z ds es 0 0 0) [(0, 0), (1, 1), (5, 2), (6, 3), (7, 4)] a4 := ⟨hs.defers, hs.size, hs.sl.2.1, hs.sl.2.2.1, hs.sl.1, hs.sl.2.2.2.1, hl7.1, trivial⟩
 refine jz (Θ := Nat × Nat) (fun θ a w1 => ∃ z l, θ.2 ≤ 1 ∧ θ.1 ≤ ds.length ∧ l.length = θ.1 ∧ (∀ d ∈ l, d < 10000) ∧ cG ds + 10000 ^ θ.1 * (cG (es.drop θ.1) + θ.2) = cG es + cG l + 10000 ^ θ.1 * cG (ds.drop θ.1) ∧ kl 36 (vl_rest x y z ds es θ.1 θ.2 0) [(0, 0), (1, 1), (5, 2), (6, 3), (7, 4)] a ∧ Own w.heap.size w1 z l ∧ Below w.heap.size w w1) (fun θ => ds.length - θ.1) ?_ (0, 0) ⟨z, [], by simp, Nat.zero_le _, rfl, by simp, by simp [cG]; omega, hs, hown, hb4⟩
 rintro ⟨i, b⟩ a w1 ⟨z, l, hc, hi, hll, hdl, hnat, hs, hown, hb⟩
 have hc : b ≤ 1 := hc
 have hll : l.length = i := hll
 have hx1 := hx.below hb (Nat.le_refl _)
 have hy1 := hy.below hb (Nat.le_refl _)
 by_cases hend : ds.length ≤ i
 · have one := rest_one hx.one hy.one hown.one ds es i b 0
   have hT : ∀ t ∈ t_rest0, t.Valid (CV 36 (vl_rest x y z ds es i b 0) w1) := ca (e_len cU (pdW rfl hx1) (kn rfl)) (ca (kj (jj rfl) (jj rfl) (decide_eq_false (by omega))) ce)
   refine wp_seq (cZ [(0, 0), (1, 1), (5, 2), (6, 3), (7, 4)] [(5, 2)] (n := 30) (x := .exit 0) one hT hs (by kernel_rfl) rfl rfl (fun a5 w5 hs hb5 => ?_))
   have hown := hown.below hb5
   have hb := hb.trans (hb5.mono hb.size)
   have hs : kl 36 [z] [(5, 0)] a5 := ⟨hs.defers, hs.size, hs.sl⟩
   have hC : (mkC [1, 1] [false, false] [] 36 [clW z, clF w.heap.size (jH l)] w5).Ok := cL (cb (jf hown.one) (cb (clF_ok noT _ _) cD)) rfl rfl
   have hT : ∀ t ∈ [(⟨.call 123, [op 0], .val (op 1)⟩ : cW)], t.Valid (mkC [1, 1] [false, false] [] 36 [clW z, clF w.heap.size (jH l)] w5) := ca (e_trimF (pfW rfl hown.dg (fun k hk => (hown.lt k hk).1)) (rf rfl)) ce
   refine seg_vf (vl := [z]) [(5, 0)] [] (t := 4) (ds := jH l) hC hT hs 1 (fun i hi => ?_) rfl (n := 30) (x := .ret) (by kernel_rfl) rfl rfl (fun a6 w6 v h4 hv hfr hs hb6 => ret_v rfl hs.defers h4 ⟨v, rfl, ?_, hfr, hb.trans (hb6.mono hb.size)⟩)
   · have hi : i < 1 := hi
     obtain rfl : i = 0 := by omega
     rfl
   · have hnl := nat_bound hdl
     rw [hll] at hnl
     rw [kf (by show es.length ≤ i; omega), kf (by show ds.length ≤ i; omega)] at hnat
     have hnat : cG ds + 10000 ^ i * (0 + b) = cG es + cG l + 10000 ^ i * 0 := hnat
     have hb0 : b = 0 := by
      rcases Nat.lt_or_ge b 1 with h | h
      · omega
      · have : b = 1 := by omega
        subst this
        omega
     subst hb0
     rw [show cG ds - cG es = cG l by omega, digs_nat hdl]
     exact hv
 · have hi : i < ds.length := by omega
   have hdi := hds i
   have hei := hes i
   have hl9 : ds.length < 1000000000 := by omega
   refine wp_seq (cZ [(0, 0), (1, 1), (5, 2), (6, 3), (7, 4)] [(0, 0), (1, 1), (5, 2), (6, 3), (7, 4)] (n := 30) (x := .normal) (rest_one hx.one hy.one hown.one ds es i b 0) (rest_T (z := z) hx1 hy1 hds hes hc hi hl9 rfl) hs (by kernel_rfl) rfl rfl (fun a5 w5 hs hb5 => ?_))
   have hown := hown.below hb5
   have hb := hb.trans (hb5.mono hb.size)
   refine wp_seq (wp_block (wp_seq (cZ [(0, 0), (1, 1), (5, 2), (6, 3), (7, 4)] [(0, 0), (1, 1), (5, 2), (7, 4), (8, 10)] (n := 30) (x := .normal) (rest_one hx.one hy.one hown.one ds es i b 0) (rest_T (z := z) (hx.below hb (Nat.le_refl _)) (hy.below hb (Nat.le_refl _)) hds hes hc hi hl9 rfl) hs (by kernel_rfl) rfl rfl (fun a6 w6 hs hb6 => ?_))))
   have hown := hown.below hb6
   have hb := hb.trans (hb6.mono hb.size)
   refine wp_seq (seg_vl (T := []) [(0, 0), (1, 1), (5, 2), (7, 4), (8, 10)] [(0, 0), (1, 1), (5, 2), (7, 4), (8, 10)] [(6, ii 0)] (n := 30) (x := .normal) (rest_one hx.one hy.one hown.one ds es i b 0) ce hs (by kernel_rfl) rfl rfl (fun a7 w7 hs hl6 hb7 => ?_))
   have hown := hown.below hb7
   have hb := hb.trans (hb7.mono hb.size)
   have key : ∀ (Q' : Exit → Act → World → Prop), (∀ bn dd a' w', bn ≤ 1 → es.getD i 0 + b + dd = ds.getD i 0 + 10000 * bn → dd < 10000 → kl 36 [x, y, z, ii ((bn : Nat) : Int), ii (i : Int), ii ((dd : Nat) : Int), ii ((i + 1 : Nat) : Int)] [(0, 0), (1, 1), (5, 2), (6, 3), (7, 4), (8, 5)] a' → Below w7.heap.size w7 w' → Q' .normal a' w') → (cI (cq (cq (cP (cI (cq l_rest)))))).wp Tryz.prog Q' a7 w7 := by
    intro Q' hQ
    by_cases hneg : ds.getD i 0 < es.getD i 0 + b
    · obtain ⟨dd, hdd⟩ : ∃ dd, es.getD i 0 + b + dd = ds.getD i 0 + 10000 := ⟨ds.getD i 0 + 10000 - (es.getD i 0 + b), by omega⟩
      have hs : kl 36 (vl_rest x y z ds es i b dd) [(0, 0), (1, 1), (5, 2), (7, 4), (8, 10)] a7 := ⟨hs.defers, hs.size, hs.sl⟩
      have hT : ∀ t ∈ t_restB ++ t_rest true, t.Valid (CV 36 (vl_rest x y z ds es i b dd) w7) := by
       intro t ht
       rcases List.mem_append.1 ht with h | h
       · exact (ca (P := fun t => cW.Valid (CV 36 (vl_rest x y z ds es i b dd) w7) t) (e_add (u := (dd : Int)) (by omega) (jj rfl) jR (kn rfl) (by omega)) ce) t h
       · exact rest_T (z := z) (hx.below hb (Nat.le_refl _)) (hy.below hb (Nat.le_refl _)) hds hes hc hi hl9 (decide_eq_true hneg) t h
      refine seg_vl [(0, 0), (1, 1), (5, 2), (7, 4), (8, 10)] [(0, 0), (1, 1), (5, 2), (7, 4), (8, 11)] [(6, ii 1)] (n := 30) (x := .normal) (rest_one hx.one hy.one hown.one ds es i b dd) hT hs (by kernel_rfl) rfl rfl (fun a8 w8 hs hl6 hb8 => ?_)
      exact hQ 1 dd a8 w8 (by omega) (by omega) (by omega) ⟨hs.defers, hs.size, hs.sl.1, hs.sl.2.1, hs.sl.2.2.1, hl6.1, hs.sl.2.2.2.1, hs.sl.2.2.2.2.1, trivial⟩ hb8
    · obtain ⟨dd, hdd⟩ : ∃ dd, es.getD i 0 + b + dd = ds.getD i 0 := ⟨ds.getD i 0 - (es.getD i 0 + b), by omega⟩
      have hs : kl 36 (vl_rest x y z ds es i b dd) [(0, 0), (1, 1), (5, 2), (7, 4), (8, 10), (6, 13)] a7 := ⟨hs.defers, hs.size, hs.sl.1, hs.sl.2.1, hs.sl.2.2.1, hs.sl.2.2.2.1, hs.sl.2.2.2.2.1, hl6.1, trivial⟩
      refine cZ [(0, 0), (1, 1), (5, 2), (7, 4), (8, 10), (6, 13)] [(0, 0), (1, 1), (5, 2), (7, 4), (8, 10), (6, 13)] (n := 30) (x := .normal) (rest_one hx.one hy.one hown.one ds es i b dd) (rest_T (z := z) (hx.below hb (Nat.le_refl _)) (hy.below hb (Nat.le_refl _)) hds hes hc hi hl9 (decide_eq_false hneg)) hs (by kernel_rfl) rfl rfl (fun a8 w8 hs hb8 => ?_)
      have h8 : a8.tmps[8]? = some (ii (dd : Int)) := by
       have : a8.tmps[8]? = some (ii (((ds.getD i 0 : Nat) : Int) - ((es.getD i 0 : Nat) : Int) - (b : Int))) := hs.sl.2.2.2.2.1
       rw [this, show ((ds.getD i 0 : Nat) : Int) - ((es.getD i 0 : Nat) : Int) - (b : Int) = (dd : Int) by omega]
      exact hQ 0 dd a8 w8 (by omega) (by omega) (by omega) ⟨hs.defers, hs.size, hs.sl.1, hs.sl.2.1, hs.sl.2.2.1, hs.sl.2.2.2.2.2.1, hs.sl.2.2.2.1, h8, trivial⟩ hb8
   refine wp_seq (key _ (fun bn dd a8 w8 hbn hdd hdl9 hs hb8 => ?_))
   have hown := hown.below hb8
   have hb := hb.trans (hb8.mono hb.size)
   have one : ∀ z : Value, z.oneCell' = true → ∀ v ∈ [x, y, z, ii ((bn : Nat) : Int), ii (i : Int), ii ((dd : Nat) : Int), ii ((i + 1 : Nat) : Int)], v.oneCell' = true := fun z hz => cg hx.one (cg hy.one (cg hz (cg rfl (cg rfl (cg rfl (cg rfl cR))))))
   show (Code.region 10 (opsOf (cq (cq (cq (cP (cI (cq l_rest))))))).toArray false).wp Tryz.prog _ _ _
   refine push_v (T := []) [(0, 0), (1, 1), (5, 2), (6, 3), (7, 4), (8, 5)] [(0, 0), (1, 1), (6, 3), (7, 4)] 3 (s := 30) (x := 32) (d := 33) (t := 5) (cd := 5) (z := z) (ds := l) (dg := dd) (one z hown.one) ce hs 2 (by kernel_rfl) rfl rfl rfl rfl rfl rfl rfl rfl rfl rfl rfl rfl rfl rfl rfl hown hb.size (by omega) (fun z' a9 w9 h5 hown hs hb9 => ?_)
   have hb := hb.trans hb9
   have hs : kl 36 [x, y, z', ii ((bn : Nat) : Int), ii (i : Int), ii ((dd : Nat) : Int), ii ((i + 1 : Nat) : Int)] [(0, 0), (1, 1), (5, 2), (6, 3), (7, 4)] a9 := ⟨hs.defers, hs.size, hs.sl.1, hs.sl.2.1, h5, hs.sl.2.2⟩
   show (cq (cq l_rest)).wp Tryz.prog _ _ _
   have hT : ∀ t ∈ [(⟨.bin .add 3, [op 4, vp (ii 1)], .val (op 6)⟩ : cW)], t.Valid (CV 36 [x, y, z', ii ((bn : Nat) : Int), ii (i : Int), ii ((dd : Nat) : Int), ii ((i + 1 : Nat) : Int)] w9) := ca (e_add (by omega) (jj rfl) jR (kn rfl) (by omega)) ce
   refine cZ [(0, 0), (1, 1), (5, 2), (6, 3), (7, 4)] [(0, 0), (1, 1), (5, 2), (6, 3), (7, 6)] (n := 30) (x := .normal) (one z' hown.one) hT hs (by kernel_rfl) rfl rfl (fun a10 w10 hs hb10 => ?_)
   have hown := hown.below hb10
   have hb := hb.trans (hb10.mono hb.size)
   refine ⟨(i + 1, bn), ⟨z', l ++ [dd], hbn, ?_, ?_, ?_, ?_, ⟨hs.defers, hs.size, hs.sl⟩, hown, hb⟩, ?_⟩
   · show i + 1 ≤ ds.length
     omega
   · simp [hll]
   · intro d hd
     rcases List.mem_append.1 hd with h | h
     · exact hdl d h
     · have : d = dd := by simpa using h
       omega
   · have hnat : cG ds + 10000 ^ i * (cG (es.drop i) + b) = cG es + cG l + 10000 ^ i * cG (ds.drop i) := hnat
     show cG ds + 10000 ^ (i + 1) * (cG (es.drop (i + 1)) + bn) = cG es + cG (l ++ [dd]) + 10000 ^ (i + 1) * cG (ds.drop (i + 1))
     rw [nat_drop ds i, nat_drop es i] at hnat
     rw [nat_snoc, hll]
     generalize cG (ds.drop (i + 1)) = da at hnat ⊢
     generalize cG (es.drop (i + 1)) = ea at hnat ⊢
     have e1 : 10000 ^ i * (es.getD i 0 + 10000 * ea + b) + 10000 ^ i * dd = 10000 ^ i * ds.getD i 0 + 10000 ^ (i + 1) * (ea + bn) := by
      rw [Nat.pow_succ, Nat.mul_assoc, ← Nat.mul_add, ← Nat.mul_add]
      congr 1
      omega
     have e2 : 10000 ^ i * (ds.getD i 0 + 10000 * da) = 10000 ^ i * ds.getD i 0 + 10000 ^ (i + 1) * da := by
      rw [Nat.pow_succ, Nat.mul_assoc, ← Nat.mul_add]
     omega
   · show ds.length - (i + 1) < ds.length - i
     omega
end Sym
open Go Go.RowKit Go.Proofs Lim
namespace Sym
section
variable {nt : Nat} {vl : List Value} {w : World} {a : Act} {T : List cW} {Q : Exit → Act → World → Prop}
theorem info_int : ∃ i, Tryz.prog.info? 3 = some i ∧ i.zero = some (ii 0) ∧ i.size = 1 ∧ i.bytes = 8 := by
 have h : (Tryz.prog.info? 3).map (fun i => (i.zero, i.size, i.bytes)) = some (some (ii 0), 1, 8) := by kernel_rfl
 obtain ⟨i, h1, h2⟩ := Option.map_eq_some_iff.1 h
 simp only [Prod.mk.injEq] at h2
 exact ⟨i, h1, h2.1, h2.2.1, h2.2.2⟩
theorem make_v (pre post : List (Nat × Nat)) {id : Nat} {l : List Oper} (i : Nat) {om os : Oper} {s d t B n : Nat} (h1 : ∀ v ∈ vl, v.oneCell' = true) (hT : ∀ t ∈ T, t.Valid (CV nt vl w)) (hs : kl nt vl pre a) (cs : Nat)
 (h : opsB (CV nt vl w).toStat T (l.take i) (cT pre) (cT ((s, cs) :: post)) = true) (hl : l.drop i = [om, os]) (hg : om.guard = none) (hg' : os.guard = none)
 (ho : om.op = .makeSlice 31 (.tmp s) (.tmp s)) (hd : om.dst = some d) (ho' : os.op = .assign (.tmp d)) (hd' : os.dst = some t)
 (hcs : vl[cs]? = some (ii (n : Int))) (hlim : Nat.blt d nt = true) (hlim' : Nat.blt t nt = true) (hap : apartFrom post d = true) (hap' : apartFrom post t = true)
 (hi : inVl pre vl.length = true) (hi' : inVl ((s, cs) :: post) vl.length = true) (hB : B ≤ w.heap.size) (hn : n < 1000000000)
 (hQ : ∀ z' a' w', a'.tmps[t]? = some z' → Own B w' z' (List.replicate n 0) → kl nt vl post a' → Below B w w' → Q .normal a' w') : (Code.region id l.toArray false).wp Tryz.prog Q a w := by
 refine wp_region_lit ?_
 rw [show wpList Tryz.prog l.toArray Q l a w = wpList Tryz.prog l.toArray Q (l.take i ++ l.drop i) a w by rw [List.take_append_drop], hl]
 refine ops_is (CV_ok h1) hT h (hs.at hi) (fun a2 w2 hA => ?_)
 have hit := hA.items
 rw [← List.append_nil (cT ((s, cs) :: post))] at hit
 obtain ⟨⟨sz, hsl⟩, _⟩ := items_sl hi' hit
 have sz : a2.tmps[s]? = some (ii (n : Int)) := by rw [sz, List.getD, hcs]; rfl
 have hB2 : B ≤ w2.heap.size := Nat.le_trans hB hA.below.size
 have hev : a2.eval (.tmp s) = ii (n : Int) := by simp [Act.eval, Array.getD_eq_getD_getElem?, sz]
 obtain ⟨inf, q1, q2, q3, q4⟩ := info_int
 refine wpList_make_full w2 hg (.tmp s) (.tmp s) 31 ho B 3 inf (ii 0) 1 (by kernel_rfl) q1 q2 q3 .i64 .i64 n n n hev hev rfl rfl (by rw [q4]; omega) (by simp only [maxLen]; omega) hB2 (fun w3 hown hgr => ?_)
 generalize Value.slice (some ⟨w2.heap.size, 0, none⟩) n n = z' at hown ⊢
 rw [hd]
 refine wpList_plain hg' (fun K hK => ?_)
 have hsz : d < a2.tmps.size := by
  have : d < nt := by simpa using hlim
  rw [hA.size]; exact this
 have hst : t < (a2.put (some d) z').tmps.size := by
  have : t < nt := by simpa using hlim'
  rw [put_size, hA.size]; exact this
 have hev : (a2.put (some d) z').eval (.tmp d) = z' := by simp [Act.eval, Array.getD_eq_getD_getElem?, put_self hsz]
 have hw : (execOp (a2.put (some d) z').eval os).run (CV nt vl w).P w3 = .ok (.value z') w3 := by simp only [execOp, ho', hev]; rfl
 refine jc hw (hK _ _ ?_)
 rw [hd']
 have hown' : Own B w3 z' (List.replicate n 0) := by
  have e : (madeCells (ii 0).cells (n * 1)).toList = (List.replicate n 0).map (fun d : Nat => ii (d : Int)) := by
   rw [Nat.mul_one, List.map_replicate]
   exact toList_madeCells_one _ n
  rw [e] at hown
  show w3.ownsRow B _ 1 z' (List.replicate n 0).length _
  rw [List.length_replicate]
  exact hown
 refine hQ z' _ w3 (put_self hst) hown' ⟨(put_defers _ _ _).trans ((put_defers _ _ _).trans hA.defers), (put_size _ _ _).trans ((put_size _ _ _).trans hA.size), Sl.put hap' (Sl.put hap hsl)⟩ ?_
 exact (hA.below.mono hB).trans ⟨hgr.os, hgr.tape, hgr.output, hgr.size, fun i hi => hgr.block i (by omega) (by simp)⟩
theorem Dg.grown {w w' : World} {row : Option Nat} {v : Value} {ds : List Nat} (h : Dg w v ds) (hg : w.grownBy w' row) (hne : ∀ k, v.ownBlock = some k → some k ≠ row) : Dg w' v ds := by
 obtain ⟨ao, cap, rfl, h1, h2, h3⟩ := h
 refine ⟨ao, cap, rfl, h1, h2, fun hn => ?_⟩
 obtain ⟨b, off, rfl, ⟨cs, fr, hc⟩, hr⟩ := h3 hn
 have hb : w'.heap[b]? = w.heap[b]? := hg.block b (Array.getElem?_eq_some_iff.1 hc).1 (hne b rfl)
 exact ⟨b, off, rfl, ⟨cs, fr, hb.trans hc⟩, fun i hi => (World.cell?_of_block (a := ⟨b, off + i, none⟩) hb).trans (hr i hi)⟩
theorem store_v (pre post : List (Nat × Nat)) {id : Nat} {l : List Oper} (i : Nat) {os : Oper} {s t B cp cv : Nat} {z : Value} {ds : List Nat} {j d : Nat} (h1 : ∀ v ∈ vl, v.oneCell' = true) (hT : ∀ t ∈ T, t.Valid (CV nt vl w)) (hs : kl nt vl pre a)
 (h : opsB (CV nt vl w).toStat T (l.take i) (cT pre) (cT ((s, cp) :: (t, cv) :: post)) = true) (hl : l.drop i = [os]) (hg : os.guard = none)
 (ho : os.op = .store 3 (.tmp s) (.tmp t)) (hd : os.dst = none)
 (hcp : vl[cp]? = some (jI z j)) (hcv : vl[cv]? = some (ii (d : Int)))
 (hi : inVl pre vl.length = true) (hi' : inVl ((s, cp) :: (t, cv) :: post) vl.length = true) (hown : Own B w z ds) (hB : B ≤ w.heap.size) (hj : j < ds.length)
 (hQ : ∀ a' w', Own B w' z (ds.set j d) → kl nt vl post a' → Below B w w' → (∀ v rs, Dg w v rs → (∀ k, v.ownBlock = some k → some k ≠ z.ownBlock) → Dg w' v rs) → Q .normal a' w') : (Code.region id l.toArray false).wp Tryz.prog Q a w := by
 refine wp_region_lit ?_
 rw [show wpList Tryz.prog l.toArray Q l a w = wpList Tryz.prog l.toArray Q (l.take i ++ l.drop i) a w by rw [List.take_append_drop], hl]
 refine ops_is (CV_ok h1) hT h (hs.at hi) (fun a2 w2 hA => ?_)
 have hit := hA.items
 rw [← List.append_nil (cT ((s, cp) :: (t, cv) :: post))] at hit
 obtain ⟨⟨ss, st, hsl⟩, _⟩ := items_sl hi' hit
 have hown := hown.below hA.below
 have hown0 := hown
 rcases hown.2 with ⟨rfl, h3⟩ | ⟨g, cap, cur, rfl, hb, hgc, hn, hc, hsz, ht⟩
 · omega
 have ss : a2.eval (.tmp s) = .pointer (some ⟨g, j, none⟩) := by
  have : a2.tmps[s]? = some (jI (.slice (some ⟨g, 0, none⟩) ds.length cap) j) := by rw [ss, List.getD, hcp]; rfl
  rw [show jI (.slice (some ⟨g, 0, none⟩) ds.length cap) j = .pointer (some ⟨g, 0 + j, none⟩) from rfl, Nat.zero_add] at this
  simp [Act.eval, Array.getD_eq_getD_getElem?, this]
 have st : a2.eval (.tmp t) = ii (d : Int) := by
  have : a2.tmps[t]? = some (ii (d : Int)) := by rw [st, List.getD, hcv]; rfl
  simp [Act.eval, Array.getD_eq_getD_getElem?, this]
 obtain ⟨h5, hgr⟩ := hown0.stored j (ii (d : Int))
 refine wpList_plain hg (fun K hK => ?_)
 obtain ⟨u, hu⟩ : ∃ u, w2.cell? ⟨g, j, none⟩ = some u := by
  have : j < cur.size := by omega
  exact ⟨cur[j], by simp [World.cell?, hgc, this]⟩
 have hz := frozen_of_row w2 g j cur 3 hgc
 have hst : (store (⟨g, j, none⟩ : Addr) (ii (d : Int))).run Tryz.prog w2 = .ok () (w2.setCell ⟨g, j, none⟩ (ii (d : Int))) := by
  rw [run_store_int]
  simp [stored, hu, hz]
 have hadd : (⟨g, j, none⟩ : Addr).add 0 = ⟨g, j, none⟩ := by simp [Addr.add]
 have hsv : (storeVar 3 ⟨g, j, none⟩ (ii (d : Int))).run Tryz.prog w2 = .ok () (w2.setCell ⟨g, j, none⟩ (ii (d : Int))) := by
  have hc1 : (ii (d : Int)).cells = #[ii (d : Int)] := rfl
  simp only [storeVar, Sem.run_bind, size_int, Result.andThen_ok, hc1]
  simp only [List.size_toArray, List.length_cons, List.length_nil, ne_eq, not_true_eq_false, if_false, storeCells, hadd, Sem.run_bind, hst, Result.andThen_ok]
  rfl
 have hw : (execOp a2.eval os).run Tryz.prog w2 = .ok .skip (w2.setCell ⟨g, j, none⟩ (ii (d : Int))) := by simp [execOp, ho, ss, st, Instr.storeAt, Instr.sureAddr, hsv]
 unfold Oper.wp
 have hw : (execOp a2.eval os).run (CV nt vl w).P w2 = .ok .skip (w2.setCell ⟨g, j, none⟩ (ii (d : Int))) := hw
 rw [hw]
 refine hK _ _ ?_
 rw [hd]
 have hgB : B ≤ g := hb
 have hown' : Own B (w2.setCell ⟨g, j, none⟩ (ii (d : Int))) (.slice (some ⟨g, 0, none⟩) ds.length cap) (ds.set j d) := by
  show World.ownsRow _ B _ 1 _ (ds.set j d).length ((ds.set j d).map (fun d : Nat => ii (d : Int)))
  rw [List.length_set, List.map_set]
  exact h5
 exact hQ _ _ hown' ⟨hA.defers, hA.size, hsl⟩ ((hA.below.mono hB).trans ⟨hgr.os, hgr.tape, hgr.output, hgr.size, fun i hi => hgr.block i (Nat.lt_of_lt_of_le hi (Nat.le_trans hB hA.below.size)) (fun e => by injection e with e; omega)⟩) (fun v rs hv hne => (hv.below hA.below (Nat.le_refl _)).grown hgr hne)
end
end Sym
open Go Go.RowKit Go.Proofs Lim
namespace Sym
theorem nat_set : ∀ {l : List Nat} {k v : Nat}, k < l.length → cG (l.set k v) + 10000 ^ k * l.getD k 0 = cG l + 10000 ^ k * v
 | [], k, v, h => by simp at h
 | d :: l, 0, v, h => by
  show v + 10000 * cG l + 10000 ^ 0 * d = d + 10000 * cG l + 10000 ^ 0 * v
  simp; omega
 | d :: l, k + 1, v, h => by
  have := nat_set (l := l) (k := k) (v := v) (by simpa using h)
  show d + 10000 * cG (l.set k v) + 10000 ^ (k + 1) * l.getD k 0 = d + 10000 * cG l + 10000 ^ (k + 1) * v
  rw [Nat.pow_succ, Nat.mul_comm (10000 ^ k) 10000, Nat.mul_assoc, Nat.mul_assoc]
  omega
theorem getD_out {ds : List Nat} {j : Nat} (h : ds.length ≤ j) : ds.getD j 0 = 0 := by rw [List.getD_eq_getElem?_getD, List.getElem?_eq_none h]; rfl
theorem nat_take (es : List Nat) (j : Nat) : cG (es.take (j + 1)) = cG (es.take j) + 10000 ^ j * es.getD j 0 := by
 rcases Nat.lt_or_ge j es.length with h | h
 · rw [take_last h, nat_snoc, List.length_take, Nat.min_eq_left (by omega)]
 · rw [getD_out h, List.take_of_length_le h, List.take_of_length_le (by omega)]
   simp
theorem getD_setN {l : List Nat} {k v j : Nat} (h : j ≠ k) : (l.set k v).getD j 0 = l.getD j 0 := by
 simp [List.getD, List.getElem?_set, Ne.symm h]
theorem mem_set_lt {l : List Nat} {k v : Nat} (h : ∀ d ∈ l, d < 10000) (hv : v < 10000) : ∀ d ∈ l.set k v, d < 10000 := by
 intro d hd
 rcases List.mem_or_eq_of_mem_set hd with h1 | h1
 · exact h d h1
 · omega
theorem dig_of {l : List Nat} (h : ∀ d ∈ l, d < 10000) : Dig l := fun i => by
 rcases Nat.lt_or_ge i l.length with hi | hi
 · have : l.getD i 0 = l[i] := by simp [List.getD, hi]
   rw [this]
   exact h _ (List.getElem_mem hi)
 · rw [getD_out hi]; omega
abbrev vl_prod (x y z : Value) (ds es l : List Nat) (i c j : Nat) : List Value := [x, y, z, ii (i : Int), ii (c : Int), ii (j : Int), ii ((i + j : Nat) : Int), jI z (i + j), ii ((l.getD (i + j) 0 : Nat) : Int), jI x i, ii ((ds.getD i 0 : Nat) : Int), ii ((es.getD j 0 : Nat) : Int), ii ((ds.getD i 0 * es.getD j 0 : Nat) : Int), ii ((l.getD (i + j) 0 + ds.getD i 0 * es.getD j 0 : Nat) : Int), ii ((l.getD (i + j) 0 + ds.getD i 0 * es.getD j 0 + c : Nat) : Int), ii (((l.getD (i + j) 0 + ds.getD i 0 * es.getD j 0 + c) % 10000 : Nat) : Int), ii (((l.getD (i + j) 0 + ds.getD i 0 * es.getD j 0 + c) / 10000 : Nat) : Int), ii ((j + 1 : Nat) : Int), ii (es.length : Int)]
theorem prod_one {x y z : Value} (hx : x.oneCell' = true) (hy : y.oneCell' = true) (hz : z.oneCell' = true) (ds es l : List Nat) (i c j : Nat) : ∀ v ∈ vl_prod x y z ds es l i c j, v.oneCell' = true :=
 cg hx (cg hy (cg hz (cg rfl (cg rfl (cg rfl (cg rfl (cg (jy _ _) (cg rfl (cg (jy _ _) (cg rfl (cg rfl (cg rfl (cg rfl (cg rfl (cg rfl (cg rfl (cg rfl (cg rfl cR))))))))))))))))))
def t_prodG (b1 b2 : Bool) : List cW := [⟨.blt .len [31] 3, [op 1], .val (op 18)⟩, ⟨.bin .lss 3, [op 5, op 18], .val (vp (.bool b1))⟩, ⟨.bin .gtr 3, [op 4, vp (ii 0)], .val (vp (.bool b2))⟩]
theorem prod_G {x y z : Value} {ds es l : List Nat} {w : World} (hy : Dg w y es) {i c j : Nat} {b1 b2 : Bool} (h1 : decide (j < es.length) = b1) (h2 : decide (0 < c) = b2) : ∀ t ∈ t_prodG b1 b2, t.Valid (CV 60 (vl_prod x y z ds es l i c j) w) :=
 ca (e_len cU (pdW rfl hy) (kn rfl)) (ca (kj (jj rfl) (jj rfl) (by rw [← h1]; simp)) (ca (kw (jj rfl) jR (by rw [← h2]; simp)) ce))
def t_prod : List cW := [⟨.bin .add 3, [op 3, op 5], .val (op 6)⟩, ⟨.ix 31, [op 2, op 6], .val (op 7)⟩, ⟨.ld 3, [op 7], .val (op 8)⟩, ⟨.ix 31, [op 0, op 3], .val (op 9)⟩, ⟨.ld 3, [op 9], .val (op 10)⟩, ⟨.call 127, [op 1, op 5], .val (op 11)⟩, ⟨.bin .mul 3, [op 10, op 11], .val (op 12)⟩, ⟨.bin .add 3, [op 8, op 12], .val (op 13)⟩, ⟨.bin .add 3, [op 13, op 4], .val (op 14)⟩,
 ⟨.bin .rem 3, [op 14, vp (ii 10000)], .val (op 15)⟩, ⟨.bin .quo 3, [op 14, vp (ii 10000)], .val (op 16)⟩, ⟨.bin .add 3, [op 5, vp (ii 1)], .val (op 17)⟩]
theorem sum_bound {a b c d : Nat} (ha : a < 10000) (hb : b < 10000) (hc : c < 10000) (hd : d < 10000) : a + b * c + d < 100000000 := by
 have : b * c ≤ 9999 * 9999 := Nat.mul_le_mul (by omega) (by omega)
 omega
theorem prod_T {x y z : Value} {ds es l : List Nat} {w : World} (hx : Dg w x ds) (hy : Dg w y es) (hz : Dg w z l) (hds : Dig ds) (hes : Dig es) (hl : Dig l) {i c j : Nat} (hc : c < 10000) (hi : i < ds.length) (hij : i + j < l.length) (hll : l.length < 1000000000) : ∀ t ∈ t_prod, t.Valid (CV 60 (vl_prod x y z ds es l i c j) w) :=
 have hs := sum_bound (hl (i + j)) (hds i) (hes j) hc
 have h0 : ds.getD i 0 * es.getD j 0 < 100000000 := by omega
 ca (e_add (by omega) (jj rfl) (jj rfl) (kn rfl) (by omega)) (ca (e_ixW cU elem_nat (jj rfl) hz (jj rfl) hij (kn rfl)) (ca (e_ldW (jj rfl) hz hij (kn rfl)) (ca (e_ixW cU elem_nat (jj rfl) hx (jj rfl) hi (kn rfl)) (ca (e_ldW (jj rfl) hx hi (kn rfl)) (ca (e_digit (i := j) (pdW rfl hy) (jj rfl) (kn rfl))
  (ca (e_mul (by rw [Int.natCast_mul]) (jj rfl) (jj rfl) (kn rfl) (by omega)) (ca (e_add (by omega) (jj rfl) (jj rfl) (kn rfl) (by omega)) (ca (e_add (by omega) (jj rfl) (jj rfl) (kn rfl) (by omega))
   (ca (e_rem (k := .i64) (n := 10000) (jj rfl) jR (kn rfl) (by decide)) (ca (e_quo (k := .i64) (n := 10000) (jj rfl) jR (kn rfl) (by decide) (by rw [IntKind.wrap_i64]; omega)) (ca (e_add (by omega) (jj rfl) jR (kn rfl) (by omega)) ce)))))))))))
def t_prodE : List cW := [⟨.bin .quo 3, [op 14, vp (ii 10000)], .val (op 16)⟩, ⟨.bin .add 3, [op 5, vp (ii 1)], .val (op 17)⟩]
theorem prod_E {x y z : Value} {ds es l : List Nat} {w : World} (hds : Dig ds) (hes : Dig es) (hl : Dig l) {i c j : Nat} (hc : c < 10000) (hj : j < 1000000000) : ∀ t ∈ t_prodE, t.Valid (CV 60 (vl_prod x y z ds es l i c j) w) :=
 have hs := sum_bound (hl (i + j)) (hds i) (hes j) hc
 ca (e_quo (k := .i64) (n := 10000) (jj rfl) jR (kn rfl) (by decide) (by rw [IntKind.wrap_i64]; omega)) (ca (e_add (by omega) (jj rfl) jR (kn rfl) (by omega)) ce)
noncomputable def b_prod : Code := bodyOf Tryz.f93
noncomputable def lo_prod : Code := cP (cP (cq (cI (cq (cq b_prod)))))
noncomputable def li_prod : Code := cP (cP (cq (cq (cP (cI (cq lo_prod))))))
abbrev vl_prodo (x y z : Value) (ds : List Nat) (i : Nat) : List Value := [x, y, z, ii (i : Int), ii (ds.length : Int), ii ((i + 1 : Nat) : Int)]
theorem prod_inner (x y z : Value) (ds es l0 : List Nat) (i B : Nat) (hi : i < ds.length) (hds : Dig ds) (hes : Dig es) (hl1 : ds.length < 100000000) (hl2 : es.length < 100000000) (hl0 : l0.length = ds.length + es.length) (hd0 : ∀ d ∈ l0, d < 10000) (hz0 : ∀ k, i + es.length ≤ k → l0.getD k 0 = 0)
 (a : Act) (w1 : World) (hx : Dg w1 x ds) (hy : Dg w1 y es) (hx0 : ∀ w', Below B w1 w' → Dg w' x ds) (hy0 : ∀ w', Below B w1 w' → Dg w' y es) (hs : kl 60 (vl_prod x y z ds es l0 i 0 0) [(0, 0), (1, 1), (5, 2), (6, 3), (7, 4), (8, 5)] a) (hown : Own B w1 z l0) (hB : B ≤ w1.heap.size) {Q : Exit → Act → World → Prop}
 (hQ : ∀ a' w' l, l.length = ds.length + es.length → (∀ d ∈ l, d < 10000) → (∀ k, i + 1 + es.length ≤ k → l.getD k 0 = 0) → cG l0 + ds.getD i 0 * (10000 ^ i * cG es) = cG l → kl 60 [x, y, z, ii (i : Int)] [(0, 0), (1, 1), (5, 2), (6, 3)] a' → Own B w' z l → Below B w1 w' → Q .normal a' w') :
 (Code.block 2 (.loop li_prod)).wp Tryz.prog Q a w1 := by
 have hx9 := hx.one
 have hy9 := hy.one
 refine jz (Θ := Nat × Nat) (fun θ a w' => ∃ l, θ.2 < 10000 ∧ (θ.1 ≤ es.length ∨ θ.1 = es.length + 1 ∧ θ.2 = 0) ∧ l.length = ds.length + es.length ∧ (∀ d ∈ l, d < 10000) ∧ (∀ k, i + θ.1 ≤ k → i + es.length ≤ k → l.getD k 0 = 0) ∧ (∀ k, i + es.length + 1 ≤ k → l.getD k 0 = 0) ∧
  cG l0 + ds.getD i 0 * (10000 ^ i * cG (es.take θ.1)) = cG l + θ.2 * 10000 ^ (i + θ.1) ∧ kl 60 (vl_prod x y z ds es l i θ.2 θ.1) [(0, 0), (1, 1), (5, 2), (6, 3), (7, 4), (8, 5)] a ∧ Own B w' z l ∧ Below B w1 w') (fun θ => 2 * (es.length - θ.1) + min θ.2 1) ?_ (0, 0) ⟨l0, by simp, .inl (Nat.zero_le _), hl0, hd0, fun k _ h => hz0 k h, fun k h => hz0 k (by omega), by simp [cG], hs, hown, Below.refl _ _⟩
 rintro ⟨j, c⟩ a w2 ⟨l, hc, hj, hll, hdl, hz1, hz2, hnat, hs, hown, hb⟩
 have hc : c < 10000 := hc
 have hj : j ≤ es.length ∨ j = es.length + 1 ∧ c = 0 := hj
 have hnat : cG l0 + ds.getD i 0 * (10000 ^ i * cG (es.take j)) = cG l + c * 10000 ^ (i + j) := hnat
 have hz1 : ∀ k, i + j ≤ k → i + es.length ≤ k → l.getD k 0 = 0 := hz1
 have hB2 : B ≤ w2.heap.size := Nat.le_trans hB hb.size
 have one := prod_one hx9 hy9 hown.one ds es l i c j
 by_cases hend : ¬ j < es.length ∧ ¬ 0 < c
 · obtain ⟨e1, e2⟩ := hend
   refine wp_seq (cZ [(0, 0), (1, 1), (5, 2), (6, 3), (7, 4), (8, 5)] [(0, 0), (1, 1), (5, 2), (6, 3)] (n := 30) (x := .exit 2) one (prod_G (hy0 _ hb) (decide_eq_false e1) (decide_eq_false e2)) hs (by kernel_rfl) rfl rfl (fun a5 w5 hs hb5 => ?_))
   refine hQ a5 w5 l hll hdl (fun k h => hz2 k (by omega)) ?_ ⟨hs.defers, hs.size, hs.sl⟩ (hown.below hb5) (hb.trans (hb5.mono hB2))
   rw [List.take_of_length_le (by omega), show c = 0 by omega] at hnat
   omega
 · have key : ∀ (Q' : Exit → Act → World → Prop), (∀ a' w', kl 60 (vl_prod x y z ds es l i c j) [(0, 0), (1, 1), (5, 2), (6, 3), (7, 4), (8, 5)] a' → Below w2.heap.size w2 w' → Q' .normal a' w') → (cI li_prod).wp Tryz.prog Q' a w2 := by
    intro Q' hQ
    cases h1 : decide (j < es.length) <;> cases h2 : decide (0 < c)
    · exfalso
      exact hend ⟨of_decide_eq_false h1, of_decide_eq_false h2⟩
    all_goals exact cZ [(0, 0), (1, 1), (5, 2), (6, 3), (7, 4), (8, 5)] [(0, 0), (1, 1), (5, 2), (6, 3), (7, 4), (8, 5)] (n := 30) (x := .normal) one (prod_G (hy0 _ hb) h1 h2) hs (by kernel_rfl) rfl rfl hQ
   have hjl : j ≤ es.length := by omega
   have hij : i + j < l.length := by omega
   have hll9 : l.length < 1000000000 := by omega
   have hdig := dig_of hdl
   refine wp_seq (key _ (fun a5 w5 hs hb5 => ?_))
   have hown := hown.below hb5
   have hb := hb.trans (hb5.mono hB2)
   have hB5 : B ≤ w5.heap.size := Nat.le_trans hB2 hb5.size
   refine wp_seq (wp_block (wp_seq (cZ [(0, 0), (1, 1), (5, 2), (6, 3), (7, 4), (8, 5)] [(0, 0), (1, 1), (5, 2), (6, 3), (8, 5), (9, 14)] (n := 30) (x := .normal) one (prod_T (hx0 _ hb) (hy0 _ hb) hown.dg hds hes hdig hc hi hij hll9) hs (by kernel_rfl) rfl rfl (fun a6 w6 hs hb6 => ?_))))
   have hown := hown.below hb6
   have hb := hb.trans (hb6.mono hB5)
   have hB6 : B ≤ w6.heap.size := Nat.le_trans hB5 hb6.size
   refine wp_seq ?_
   show (Code.region 10 (opsOf (cI (cq (cP (cI (cq li_prod)))))).toArray false).wp Tryz.prog _ _ _
   refine store_v [(0, 0), (1, 1), (5, 2), (6, 3), (8, 5), (9, 14)] [(0, 0), (1, 1), (5, 2), (6, 3), (8, 5), (9, 14)] 7 (s := 55) (t := 54) (cp := 7) (cv := 15) (z := z) (ds := l) (j := i + j) (d := (l.getD (i + j) 0 + ds.getD i 0 * es.getD j 0 + c) % 10000) one (prod_T (hx0 _ hb) (hy0 _ hb) hown.dg hds hes hdig hc hi hij hll9) hs (by kernel_rfl) rfl rfl rfl rfl rfl rfl rfl rfl hown hB6 hij (fun a7 w7 hown hs hb7 _ => ?_)
   have hb := hb.trans hb7
   have hB7 : B ≤ w7.heap.size := Nat.le_trans hB6 hb7.size
   have hsb := sum_bound (hdig (i + j)) (hds i) (hes j) hc
   refine cZ [(0, 0), (1, 1), (5, 2), (6, 3), (8, 5), (9, 14)] [(0, 0), (1, 1), (5, 2), (6, 3), (7, 16), (8, 5)] (n := 30) (x := .normal) one (prod_E hds hes hdig hc (by omega)) hs (by kernel_rfl) rfl rfl (fun a8 w8 hs hb8 => ?_)
   have hown := hown.below hb8
   have hb := hb.trans (hb8.mono hB7)
   have hB8 : B ≤ w8.heap.size := Nat.le_trans hB7 hb8.size
   show (cq (cq li_prod)).wp Tryz.prog _ _ _
   refine cZ [(0, 0), (1, 1), (5, 2), (6, 3), (7, 16), (8, 5)] [(0, 0), (1, 1), (5, 2), (6, 3), (7, 16), (8, 17)] (n := 30) (x := .normal) one (prod_E hds hes hdig hc (by omega)) hs (by kernel_rfl) rfl rfl (fun a9 w9 hs hb9 => ?_)
   have hown := hown.below hb9
   have hb := hb.trans (hb9.mono hB8)
   have hlast : j = es.length → (l.getD (i + j) 0 + ds.getD i 0 * es.getD j 0 + c) / 10000 = 0 := by
    rintro rfl
    rw [hz1 _ (Nat.le_refl _) (Nat.le_refl _), getD_out (Nat.le_refl _)]
    simp; omega
   refine ⟨(j + 1, (l.getD (i + j) 0 + ds.getD i 0 * es.getD j 0 + c) / 10000), ⟨l.set (i + j) ((l.getD (i + j) 0 + ds.getD i 0 * es.getD j 0 + c) % 10000), ?_, ?_, ?_, ?_, ?_, ?_, ?_, ⟨hs.defers, hs.size, hs.sl⟩, hown, hb⟩, ?_⟩
   · show (l.getD (i + j) 0 + ds.getD i 0 * es.getD j 0 + c) / 10000 < 10000
     omega
   · rcases Nat.lt_or_ge j es.length with h | h
     · exact .inl (by show j + 1 ≤ _; omega)
     · exact .inr ⟨by show j + 1 = _; omega, hlast (by omega)⟩
   · rw [List.length_set]; exact hll
   · exact mem_set_lt hdl (by omega)
   · intro k h1 h2
     have h1 : i + (j + 1) ≤ k := h1
     rw [getD_setN (by omega)]
     exact hz1 k (by omega) h2
   · intro k h1
     rw [getD_setN (by omega)]
     exact hz2 k h1
   · show cG l0 + ds.getD i 0 * (10000 ^ i * cG (es.take (j + 1))) = cG (l.set (i + j) _) + (l.getD (i + j) 0 + ds.getD i 0 * es.getD j 0 + c) / 10000 * 10000 ^ (i + (j + 1))
     have h1 := nat_set (v := (l.getD (i + j) 0 + ds.getD i 0 * es.getD j 0 + c) % 10000) hij
     have h2 := Nat.mod_add_div (l.getD (i + j) 0 + ds.getD i 0 * es.getD j 0 + c) 10000
     rw [nat_take]
     generalize (l.getD (i + j) 0 + ds.getD i 0 * es.getD j 0 + c) % 10000 = v at h1 h2 ⊢
     generalize (l.getD (i + j) 0 + ds.getD i 0 * es.getD j 0 + c) / 10000 = q at h2 ⊢
     have e1 : ds.getD i 0 * (10000 ^ i * (cG (es.take j) + 10000 ^ j * es.getD j 0)) = ds.getD i 0 * (10000 ^ i * cG (es.take j)) + 10000 ^ (i + j) * (ds.getD i 0 * es.getD j 0) := by
      rw [Nat.pow_add]
      grind
     have e2 : q * 10000 ^ (i + (j + 1)) = 10000 ^ (i + j) * (10000 * q) := by
      rw [show i + (j + 1) = i + j + 1 by omega, Nat.pow_succ]
      grind
     have e3 : 10000 ^ (i + j) * v + 10000 ^ (i + j) * (10000 * q) = 10000 ^ (i + j) * l.getD (i + j) 0 + 10000 ^ (i + j) * (ds.getD i 0 * es.getD j 0) + c * 10000 ^ (i + j) := by
      rw [← Nat.mul_add, h2, Nat.mul_add, Nat.mul_add, Nat.mul_comm c]
     rw [e1, e2]
     omega
   · show 2 * (es.length - (j + 1)) + min ((l.getD (i + j) 0 + ds.getD i 0 * es.getD j 0 + c) / 10000) 1 < 2 * (es.length - j) + min c 1
     rcases Nat.lt_or_ge j es.length with h | h
     · omega
     · have := hlast (by omega)
       rw [this]
       omega
abbrev vl_prod0 (x y : Value) (ds es : List Nat) : List Value := [x, y, ii (ds.length : Int), ii (es.length : Int), ii ((ds.length + es.length : Nat) : Int)]
theorem nat_zeros : ∀ n : Nat, cG (List.replicate n 0) = 0
 | 0 => rfl
 | n + 1 => by
  show 0 + 10000 * cG (List.replicate n 0) = 0
  rw [nat_zeros n]
theorem product_ok (x y : Value) (ds es : List Nat) (w : World) (hx : Dg w x ds) (hy : Dg w y es) (hds : Dig ds) (hes : Dig es) (hl1 : ds.length < 100000000) (hl2 : es.length < 100000000) : Calls Tryz.prog 93 #[x, y] w (fun e w' => ∃ v, e = .returned v ∧ Dg w' v (digs (cG ds * cG es)) ∧ Below w.heap.size w w') := by
 refine calls_v2 (nt := 60) (f := 93) Tryz.func93 (c := .seq (cI b_prod) (.seq (cI (cq b_prod)) (.seq (.seq (cI (cI (cq (cq b_prod)))) (.block 0 (.loop lo_prod))) (cq (cq (cq b_prod)))))) rfl rfl rfl x y (fun a hs => ?_)
 have one2 : ∀ v ∈ [x, y], v.oneCell' = true := cg hx.one (cg hy.one cR)
 refine wp_seq (cZ (T := []) [(0, 0), (1, 1)] [(0, 0), (1, 1)] (n := 30) (x := .normal) one2 ce hs (by kernel_rfl) rfl rfl (fun a1 w1 hs hb1 => ?_))
 refine wp_seq ?_
 have one5 : ∀ v ∈ vl_prod0 x y ds es, v.oneCell' = true := cg hx.one (cg hy.one (cg rfl (cg rfl (cg rfl cR))))
 have hT : ∀ t ∈ [(⟨.blt .len [31] 3, [op 0], .val (op 2)⟩ : cW), ⟨.blt .len [31] 3, [op 1], .val (op 3)⟩, ⟨.bin .add 3, [op 2, op 3], .val (op 4)⟩], t.Valid (CV 60 (vl_prod0 x y ds es) w1) :=
  ca (e_len cU (pdW rfl (hx.below hb1 (Nat.le_refl _))) (kn rfl)) (ca (e_len cU (pdW rfl (hy.below hb1 (Nat.le_refl _))) (kn rfl)) (ca (e_add (by omega) (jj rfl) (jj rfl) (kn rfl) (by omega)) ce))
 have hs : kl 60 (vl_prod0 x y ds es) [(0, 0), (1, 1)] a1 := ⟨hs.defers, hs.size, hs.sl⟩
 show (Code.region 1 (opsOf (cI (cq b_prod))).toArray false).wp Tryz.prog _ _ _
 refine make_v [(0, 0), (1, 1)] [(0, 0), (1, 1)] 5 (s := 14) (d := 15) (t := 5) (B := w.heap.size) (n := ds.length + es.length) one5 hT hs 4 (by kernel_rfl) rfl rfl rfl rfl rfl rfl rfl rfl rfl rfl rfl rfl rfl rfl hb1.size (by omega) (fun z a2 w2 hz hown hs hb2 => ?_)
 have hb := hb1.trans hb2
 have hs : kl 60 [x, y, z] [(5, 2), (0, 0), (1, 1)] a2 := ⟨hs.defers, hs.size, hz, hs.sl⟩
 have one3 : ∀ v ∈ [x, y, z], v.oneCell' = true := cg hx.one (cg hy.one (cg hown.one cR))
 refine wp_seq (wp_seq (seg_vl (T := []) [(5, 2), (0, 0), (1, 1)] [(5, 2), (0, 0), (1, 1)] [(6, ii 0)] (n := 30) (x := .normal) one3 ce hs (by kernel_rfl) rfl rfl (fun a3 w3 hs hl6 hb3 => ?_)))
 have hown := hown.below hb3
 have hb := hb.trans (hb3.mono hb.size)
 have hs : kl 60 (vl_prodo x y z ds 0) [(0, 0), (1, 1), (5, 2), (6, 3)] a3 := ⟨hs.defers, hs.size, hs.sl.2.1, hs.sl.2.2.1, hs.sl.1, hl6.1, trivial⟩
 refine jz (Θ := Nat) (fun i a w1 => ∃ l, i ≤ ds.length ∧ l.length = ds.length + es.length ∧ (∀ d ∈ l, d < 10000) ∧ (∀ k, i + es.length ≤ k → l.getD k 0 = 0) ∧ cG l = cG (ds.take i) * cG es ∧ kl 60 (vl_prodo x y z ds i) [(0, 0), (1, 1), (5, 2), (6, 3)] a ∧ Own w.heap.size w1 z l ∧ Below w.heap.size w w1) (fun i => ds.length - i) ?_ 0 ⟨List.replicate (ds.length + es.length) 0, Nat.zero_le _, List.length_replicate, fun d hd => by have := List.eq_of_mem_replicate hd; omega, fun k hk => by rw [List.getD_eq_getElem?_getD, List.getElem?_replicate]; split <;> rfl, by rw [nat_zeros]; simp [cG], hs, hown, hb⟩
 rintro i a w1 ⟨l, hi, hll, hdl, hz0, hnat, hs, hown, hb⟩
 have one : ∀ v ∈ vl_prodo x y z ds i, v.oneCell' = true := cg hx.one (cg hy.one (cg hown.one (cg rfl (cg rfl (cg rfl cR)))))
 have hT : ∀ (b : Bool) w1, Below w.heap.size w w1 → decide (i < ds.length) = b → ∀ t ∈ [(⟨.blt .len [31] 3, [op 0], .val (op 4)⟩ : cW), ⟨.bin .lss 3, [op 3, op 4], .val (vp (.bool b))⟩, ⟨.bin .add 3, [op 3, vp (ii 1)], .val (op 5)⟩], t.Valid (CV 60 (vl_prodo x y z ds i) w1) := fun b w1 hb h =>
  ca (e_len cU (pdW rfl (hx.below hb (Nat.le_refl _))) (kn rfl)) (ca (kj (jj rfl) (jj rfl) (by rw [← h]; simp)) (ca (e_add (by omega) (jj rfl) jR (kn rfl) (by omega)) ce))
 by_cases hend : i < ds.length
 · refine wp_seq (cZ [(0, 0), (1, 1), (5, 2), (6, 3)] [(0, 0), (1, 1), (5, 2), (6, 3)] (n := 30) (x := .normal) one (hT true w1 hb (decide_eq_true hend)) hs (by kernel_rfl) rfl rfl (fun a5 w5 hs hb5 => ?_))
   have hown := hown.below hb5
   have hb := hb.trans (hb5.mono hb.size)
   refine wp_seq (wp_block (wp_seq (seg_vl (T := []) [(0, 0), (1, 1), (5, 2), (6, 3)] [(0, 0), (1, 1), (5, 2), (6, 3)] [(7, ii 0)] (n := 30) (x := .normal) one ce hs (by kernel_rfl) rfl rfl (fun a6 w6 hs hl7 hb6 => ?_))))
   have hown := hown.below hb6
   have hb := hb.trans (hb6.mono hb.size)
   have hs : kl 60 [x, y, z, ii (i : Int), ii 0] [(0, 0), (1, 1), (5, 2), (6, 3), (7, 4)] a6 := ⟨hs.defers, hs.size, hs.sl.1, hs.sl.2.1, hs.sl.2.2.1, hs.sl.2.2.2.1, hl7.1, trivial⟩
   have one5 : ∀ v ∈ [x, y, z, ii (i : Int), ii 0], v.oneCell' = true := cg hx.one (cg hy.one (cg hown.one (cg rfl (cg rfl cR))))
   refine wp_seq (seg_vl (T := []) [(0, 0), (1, 1), (5, 2), (6, 3), (7, 4)] [(0, 0), (1, 1), (5, 2), (6, 3), (7, 4)] [(8, ii 0)] (n := 30) (x := .normal) one5 ce hs (by kernel_rfl) rfl rfl (fun a7 w7 hs hl8 hb7 => ?_))
   have hown := hown.below hb7
   have hb := hb.trans (hb7.mono hb.size)
   have hs : kl 60 (vl_prod x y z ds es l i 0 0) [(0, 0), (1, 1), (5, 2), (6, 3), (7, 4), (8, 5)] a7 := ⟨hs.defers, hs.size, hs.sl.1, hs.sl.2.1, hs.sl.2.2.1, hs.sl.2.2.2.1, hs.sl.2.2.2.2.1, hl8.1, trivial⟩
   refine prod_inner x y z ds es l i w.heap.size hend hds hes hl1 hl2 hll hdl hz0 a7 w7 (hx.below hb (Nat.le_refl _)) (hy.below hb (Nat.le_refl _)) (fun w' h => hx.below (hb.trans h) (Nat.le_refl _)) (fun w' h => hy.below (hb.trans h) (Nat.le_refl _)) hs hown hb.size (fun a8 w8 l' hll' hdl' hz' hnat' hs hown hb8 => ?_)
   have hb := hb.trans hb8
   have hs : kl 60 (vl_prodo x y z ds i) [(0, 0), (1, 1), (5, 2), (6, 3)] a8 := ⟨hs.defers, hs.size, hs.sl⟩
   show (cq (cq lo_prod)).wp Tryz.prog _ _ _
   refine cZ [(0, 0), (1, 1), (5, 2), (6, 3)] [(0, 0), (1, 1), (5, 2), (6, 5)] (n := 30) (x := .normal) one (hT true w8 hb (decide_eq_true hend)) hs (by kernel_rfl) rfl rfl (fun a9 w9 hs hb9 => ?_)
   refine ⟨i + 1, ⟨l', by omega, hll', hdl', hz', ?_, ⟨hs.defers, hs.size, hs.sl⟩, hown.below hb9, hb.trans (hb9.mono hb.size)⟩, by show ds.length - (i + 1) < ds.length - i; omega⟩
   rw [← hnat', hnat, nat_take]
   grind
 · refine wp_seq (cZ [(0, 0), (1, 1), (5, 2), (6, 3)] [(5, 2)] (n := 30) (x := .exit 0) one (hT false w1 hb (decide_eq_false hend)) hs (by kernel_rfl) rfl rfl (fun a5 w5 hs hb5 => ?_))
   have hown := hown.below hb5
   have hb := hb.trans (hb5.mono hb.size)
   have hs : kl 60 [z] [(5, 0)] a5 := ⟨hs.defers, hs.size, hs.sl⟩
   have hC : (mkC [1, 1] [false, false] [] 60 [clW z, ko (jH l)] w5).Ok := cL (cb (jf hown.one) (cb (cF noT _) cD)) rfl rfl
   have hT : ∀ t ∈ [(⟨.call 123, [op 0], .val (op 1)⟩ : cW)], t.Valid (mkC [1, 1] [false, false] [] 60 [clW z, ko (jH l)] w5) := ca (e_trim (pdW rfl hown.dg) (rd rfl)) ce
   refine seg_vd (vl := [z]) [(5, 0)] [] (t := 4) (ds := jH l) hC hT hs 1 (fun i hi => ?_) rfl (n := 30) (x := .ret) (by kernel_rfl) rfl rfl (fun a6 w6 v h4 hv hs hb6 => ret_v rfl hs.defers h4 ⟨v, rfl, ?_, hb.trans (hb6.mono hb.size)⟩)
   · have hi : i < 1 := hi
     obtain rfl : i = 0 := by omega
     rfl
   · rw [List.take_of_length_le (by omega)] at hnat
     rw [← hnat, digs_nat hdl]
     exact hv
end Sym
open Go Go.RowKit Go.Proofs Lim
namespace Sym
section
variable {csz : List Nat} {numc : List Bool} {nt : Nat} {vl : List Value} {cl : List Cl} {w0 w : World} {a : Act} {T : List cW} {Q : Exit → Act → World → Prop}
theorem items_gen (hcl : ∀ i, i < vl.length → cl[i]? = some (clW (vl.getD i undef))) {rest : List Item} : ∀ {is : List (Nat × Nat)} {bs : List Nat}, Sl a vl is → inVl is vl.length = true → (∀ bs, jd (mkC csz numc [] nt cl w0) a w rest bs) → jd (mkC csz numc [] nt cl w0) a w (cT is ++ rest) bs
 | [], bs, _, _, hr => hr bs
 | p :: l, bs, h, hi, hr => by
  unfold inVl at hi
  split at hi
  · rename_i hp
    exact ⟨⟨_, h.1, (cS (hcl _ (by simpa using hp))).2 rfl⟩, items_gen hcl h.2 hi hr⟩
  · cases hi
theorem sl_gen (hcl : ∀ i, i < vl.length → cl[i]? = some (clW (vl.getD i undef))) {rest : List Item} : ∀ {is : List (Nat × Nat)} {bs : List Nat}, inVl is vl.length = true → jd (mkC csz numc [] nt cl w0) a w (cT is ++ rest) bs → Sl a vl is ∧ jd (mkC csz numc [] nt cl w0) a w rest bs
 | [], bs, _, h => ⟨trivial, h⟩
 | p :: l, bs, hi, h => by
  unfold inVl at hi
  split at hi
  · rename_i hp
    obtain ⟨⟨v, h1, h2⟩, h3⟩ := h
    rw [(cS (hcl _ (by simpa using hp))).1 h2] at h1
    obtain ⟨q1, q2⟩ := sl_gen hcl hi h3
    exact ⟨⟨h1, q1⟩, q2⟩
  · cases hi
noncomputable def CX (nt : Nat) (vl : List Value) (ys : List Cl) (w : World) : Ctx := mkC (vl.map (fun _ => 1) ++ ys.map (·.n)) (vl.map (fun _ => false) ++ ys.map (·.num)) [] nt (vl.map clW ++ ys) w
theorem CX_L {ys : List Cl} (hL : ys.flatMap (·.L) = []) : (vl.map clW ++ ys).flatMap (·.L) = [] := by rw [List.flatMap_append, hL, L_nil]; rfl
theorem CX_ok {ys : List Cl} (h : ∀ v ∈ vl, v.oneCell' = true) (hy : ∀ y ∈ ys, y.Ok [] w.heap.size) (hL : ys.flatMap (·.L) = [] := by rfl) : (CX nt vl ys w).Ok := by
 refine cL (fun x hx => ?_) (by rw [List.map_append, List.map_map]; rfl) (by rw [List.map_append, List.map_map]; rfl) (.inl (CX_L hL))
 rcases List.mem_append.1 hx with hx | hx
 · obtain ⟨v, hv, rfl⟩ := List.mem_map.1 hx
   exact jf (h v hv)
 · exact hy x hx
theorem CX_get {ys : List Cl} : ∀ i, i < vl.length → (vl.map clW ++ ys)[i]? = some (clW (vl.getD i undef)) := fun i hi => by
 rw [List.getElem?_append_left (by simpa using hi)]
 exact getVl hi
theorem seg_x (ys : List Cl) (pre post : List (Nat × Nat)) {n : Nat} {c : Code} {x : Xt} (h1 : ∀ v ∈ vl, v.oneCell' = true) (hy : ∀ y ∈ ys, y.Ok [] w.heap.size) (hT : ∀ t ∈ T, t.Valid (CX nt vl ys w)) (hs : kl nt vl pre a)
 (h : segB (CX nt vl ys w).toStat T n c (cT pre ++ []) x (cT post ++ []) = true) (hi : inVl pre vl.length = true) (hi' : inVl post vl.length = true)
 (hQ : ∀ a' w', kl nt vl post a' → Below w.heap.size w w' → Q x.to a' w') (hL : ys.flatMap (·.L) = [] := by rfl) : c.wp Tryz.prog Q a w := by
 refine cE (CX_ok h1 hy hL) hT h ⟨Below.refl _ _, hs.defers, hs.size, items_gen CX_get hs.sl hi (fun _ => trivial), fun k hk => noL (CX_L hL) hk⟩ (fun a' w' hA => ?_)
 exact hQ a' w' ⟨hA.defers, hA.size, (sl_gen CX_get hi' hA.items).1⟩ hA.below
theorem seg_xd (ys : List Cl) (pre post : List (Nat × Nat)) (t d : Nat) {ds : List Nat} {n : Nat} {c : Code} {x : Xt} (h1 : ∀ v ∈ vl, v.oneCell' = true) (hy : ∀ y ∈ ys, y.Ok [] w.heap.size) (hT : ∀ t ∈ T, t.Valid (CX nt vl ys w)) (hs : kl nt vl pre a) (hd : (vl.map clW ++ ys)[d]? = some (ko ds))
 (h : segB (CX nt vl ys w).toStat T n c (cT pre ++ []) x (cT post ++ [.val t (op d)]) = true) (hi : inVl pre vl.length = true) (hi' : inVl post vl.length = true)
 (hQ : ∀ a' w' v, a'.tmps[t]? = some v → Dg w' v ds → kl nt vl post a' → Below w.heap.size w w' → Q x.to a' w') (hL : ys.flatMap (·.L) = [] := by rfl) : c.wp Tryz.prog Q a w := by
 refine cE (CX_ok h1 hy hL) hT h ⟨Below.refl _ _, hs.defers, hs.size, items_gen CX_get hs.sl hi (fun _ => trivial), fun k hk => noL (CX_L hL) hk⟩ (fun a' w' hA => ?_)
 obtain ⟨q1, ⟨⟨v, q2, q3⟩, _⟩⟩ := sl_gen CX_get hi' hA.items
 exact hQ a' w' v q2 ((op_isD hd).1 q3) ⟨hA.defers, hA.size, q1⟩ hA.below
theorem wp_cat {ops : Array Oper} {rest : List Oper} {o : Oper} {B s x : Nat} {z v : Value} {l rs : List Nat} (hgd : o.guard = none) (ho : o.op = .call { callee := .builtin .append, args := #[.tmp s, .tmp x], argTypes := #[31, 31] })
 (hs : a.tmps[s]? = some z) (hx : a.tmps[x]? = some v) (hv : Dg w v rs) (hown : Own B w z l) (hB : B ≤ w.heap.size) (hl : l.length + rs.length < 1000000000)
 (h : ∀ z' w', Own B w' z' (l ++ rs) → w.grownBy w' z.ownBlock → wpList Tryz.prog ops Q rest (a.put o.dst z') w') : wpList Tryz.prog ops Q (o :: rest) a w := by
 have hs' : a.eval (.tmp s) = z := by simp [Act.eval, Array.getD_eq_getD_getElem?, hs]
 obtain ⟨i, hi, hz, q1, q2⟩ := info_int
 obtain ⟨ao, cap, rfl, h1, h2, h3⟩ := hv
 have hx' : a.eval (.tmp x) = .slice ao rs.length cap := by simp [Act.eval, Array.getD_eq_getD_getElem?, hx]
 cases ao with
 | none =>
  have hr0 : rs = [] := by
   cases rs with
   | nil => rfl
   | cons r rs =>
    obtain ⟨b, off, h4, _⟩ := h3 (by simp)
    cases h4
  subst hr0
  refine wpList_plain hgd fun K hK => ?_
  have hr : (Builtin.append_ #[31, 31] o.type #[z, .slice none 0 cap]).run Tryz.prog w = .ok z w := by
   have hu : Tryz.prog.underlying 31 = some (.slice 3) := by kernel_rfl
   rcases hown.2 with ⟨rfl, _⟩ | ⟨g, cap', cur, rfl, _, _, hnc, _⟩
   · simp [Builtin.append_, run_underlying hu, sizeOf, typeInfo, hi, Builtin.lenOf, Builtin.firstCells]
   · simp [Builtin.append_, run_underlying hu, sizeOf, typeInfo, hi, Builtin.lenOf, Builtin.firstCells, hnc, storeCells]
  unfold Oper.wp execOp
  simp only [ho, resolve, invoke, builtin, Sem.run_bind, Sem.run_pure, Result.andThen_ok, List.map_toArray, List.map_cons, List.map_nil, hs', hx', List.length_nil, hr]
  exact hK _ _ (h z w (by rw [List.append_nil]; exact hown) ⟨rfl, rfl, rfl, Nat.le_refl _, fun _ _ _ => rfl⟩)
 | some ad =>
  refine wpList_append_own w hgd (.tmp s) (.tmp x) 31 ho B 3 i (ii 0) 1 8 (by kernel_rfl) hi hz q1 q2 rfl (by decide) z l.length _ hs' hown ad rs.length cap (rs.map (fun d : Nat => ii (d : Int))) hx' (by simp) ?_ ?_ (by simp only [maxLen]; omega) (by omega) hB ?_
  · intro j u hj
    have hjl : j < rs.length := by
     rcases Nat.lt_or_ge j rs.length with h | h
     · exact h
     · rw [List.getElem?_eq_none (by simpa using h)] at hj; cases hj
    obtain ⟨b, off, h4, _, h5⟩ := h3 (by omega)
    have h4 : ad = ⟨b, off, none⟩ := Option.some.inj h4
    subst h4
    have := h5 j hjl
    rw [List.getElem?_map, List.getElem?_eq_getElem hjl] at hj
    have hu : u = ii ((rs.getD j 0 : Nat) : Int) := by
     have : rs.getD j 0 = rs[j] := by simp [List.getD, hjl]
     rw [this]
     simpa using hj.symm
    rw [hu, jo]
    exact this
  · intro u hu
    obtain ⟨d, _, rfl⟩ := List.mem_map.1 hu
    rfl
  · intro z' w' g1 g2 _
    refine h z' w' ?_ g2
    have : Own B w' z' (l ++ rs) = w'.ownsRow B 3 1 z' (l.length + rs.length) ((l.map (fun d : Nat => ii (d : Int))) ++ rs.map (fun d : Nat => ii (d : Int))) := by simp [Own]
    rw [this]
    exact g1
end
end Sym
end Go.Proofs.YtccabfblgjcboaaGreatDoor
