/- Package exact, part 5: what its functions answer, as laws on the numbers that their values stand for (RefProd RefX RefDiv RefGcd RefMake RefMul RefAdd RefOps RefQ RefR RefS RefT RefD RefU RefI RefSame LawMakes). -/
import Derived.Test.YtccabfblgjcboaaGreatDoorJ4
import Derived.Laws.IdiomStrings
set_option linter.unusedVariables false
set_option linter.unusedSimpArgs false

/- The reference's Product. -/
namespace Go.Proofs.YtccabfblgjcboaaGreatDoor
open Go Go.RowKit Go.Proofs Lim
namespace Sym

theorem nat_set : ∀ {l : List Nat} {k v : Nat}, k < l.length → nat (l.set k v) + 10000 ^ k * l.getD k 0 = nat l + 10000 ^ k * v
  | [], k, v, h => by simp at h
  | d :: l, 0, v, h => by
    show v + 10000 * nat l + 10000 ^ 0 * d = d + 10000 * nat l + 10000 ^ 0 * v
    simp; omega
  | d :: l, k + 1, v, h => by
    have := nat_set (l := l) (k := k) (v := v) (by simpa using h)
    show d + 10000 * nat (l.set k v) + 10000 ^ (k + 1) * l.getD k 0 = d + 10000 * nat l + 10000 ^ (k + 1) * v
    rw [Nat.pow_succ, Nat.mul_comm (10000 ^ k) 10000, Nat.mul_assoc, Nat.mul_assoc]
    omega
theorem getD_out {ds : List Nat} {j : Nat} (h : ds.length ≤ j) : ds.getD j 0 = 0 := by rw [List.getD_eq_getElem?_getD, List.getElem?_eq_none h]; rfl
theorem nat_take (es : List Nat) (j : Nat) : nat (es.take (j + 1)) = nat (es.take j) + 10000 ^ j * es.getD j 0 := by
  rcases Nat.lt_or_ge j es.length with h | h
  · rw [take_last h, nat_snoc, List.length_take, Nat.min_eq_left (by omega)]
  · rw [getD_out h, List.take_of_length_le h, List.take_of_length_le (by omega)]
    simp
theorem getD_setN {l : List Nat} {k v j : Nat} (h : j ≠ k) : (l.set k v).getD j 0 = l.getD j 0 := by
  simp [List.getD, List.getElem?_set, Ne.symm h]
theorem mem_set_lt {l : List Nat} {k v : Nat} (h : ∀ d ∈ l, d < 10000) (hv : v < 10000) : ∀ d ∈ l.set k v, d < 10000 := by
  intro d hd
  rcases List.mem_or_eq_of_mem_set hd with h1 | h1
  · exact h d h1
  · omega
theorem dig_of {l : List Nat} (h : ∀ d ∈ l, d < 10000) : Dig l := fun i => by
  rcases Nat.lt_or_ge i l.length with hi | hi
  · have : l.getD i 0 = l[i] := by simp [List.getD, hi]
    rw [this]
    exact h _ (List.getElem_mem hi)
  · rw [getD_out hi]; omega

abbrev vl_prod (x y z : Value) (ds es l : List Nat) (i c j : Nat) : List Value := [x, y, z, ii (i : Int), ii (c : Int), ii (j : Int), ii ((i + j : Nat) : Int), ptrAt z (i + j), ii ((l.getD (i + j) 0 : Nat) : Int), ptrAt x i, ii ((ds.getD i 0 : Nat) : Int), ii ((es.getD j 0 : Nat) : Int), ii ((ds.getD i 0 * es.getD j 0 : Nat) : Int), ii ((l.getD (i + j) 0 + ds.getD i 0 * es.getD j 0 : Nat) : Int), ii ((l.getD (i + j) 0 + ds.getD i 0 * es.getD j 0 + c : Nat) : Int), ii (((l.getD (i + j) 0 + ds.getD i 0 * es.getD j 0 + c) % 10000 : Nat) : Int), ii (((l.getD (i + j) 0 + ds.getD i 0 * es.getD j 0 + c) / 10000 : Nat) : Int), ii ((j + 1 : Nat) : Int), ii (es.length : Int)]
theorem prod_one {x y z : Value} (hx : x.oneCell' = true) (hy : y.oneCell' = true) (hz : z.oneCell' = true) (ds es l : List Nat) (i c j : Nat) : ∀ v ∈ vl_prod x y z ds es l i c j, v.oneCell' = true :=
  one_cons hx (one_cons hy (one_cons hz (one_cons rfl (one_cons rfl (one_cons rfl (one_cons rfl (one_cons (ptrAt_one _ _) (one_cons rfl (one_cons (ptrAt_one _ _) (one_cons rfl (one_cons rfl (one_cons rfl (one_cons rfl (one_cons rfl (one_cons rfl (one_cons rfl (one_cons rfl (one_cons rfl one_nil))))))))))))))))))
def t_prodG (b1 b2 : Bool) : List Ent := [⟨.blt .len [31] 3, [op 1], .val (op 18)⟩, ⟨.bin .lss 3, [op 5, op 18], .val (vp (.bool b1))⟩, ⟨.bin .gtr 3, [op 4, vp (ii 0)], .val (vp (.bool b2))⟩]
theorem prod_G {x y z : Value} {ds es l : List Nat} {w : World} (hy : Dg w y es) {i c j : Nat} {b1 b2 : Bool} (h1 : decide (j < es.length) = b1) (h2 : decide (0 < c) = b2) : ∀ t ∈ t_prodG b1 b2, t.Valid (CV 60 (vl_prod x y z ds es l i c j) w) :=
  forall_cons (e_len und_nat (pdW rfl hy) (rvW rfl)) (forall_cons (e_lss (pvW rfl) (pvW rfl) (by rw [← h1]; simp)) (forall_cons (e_gtr (pvW rfl) pvl (by rw [← h2]; simp)) forall_nil))
def t_prod : List Ent := [⟨.bin .add 3, [op 3, op 5], .val (op 6)⟩, ⟨.ix 31, [op 2, op 6], .val (op 7)⟩, ⟨.ld 3, [op 7], .val (op 8)⟩, ⟨.ix 31, [op 0, op 3], .val (op 9)⟩, ⟨.ld 3, [op 9], .val (op 10)⟩, ⟨.call 127, [op 1, op 5], .val (op 11)⟩, ⟨.bin .mul 3, [op 10, op 11], .val (op 12)⟩, ⟨.bin .add 3, [op 8, op 12], .val (op 13)⟩, ⟨.bin .add 3, [op 13, op 4], .val (op 14)⟩,
  ⟨.bin .rem 3, [op 14, vp (ii 10000)], .val (op 15)⟩, ⟨.bin .quo 3, [op 14, vp (ii 10000)], .val (op 16)⟩, ⟨.bin .add 3, [op 5, vp (ii 1)], .val (op 17)⟩]
theorem sum_bound {a b c d : Nat} (ha : a < 10000) (hb : b < 10000) (hc : c < 10000) (hd : d < 10000) : a + b * c + d < 100000000 := by
  have : b * c ≤ 9999 * 9999 := Nat.mul_le_mul (by omega) (by omega)
  omega
theorem prod_T {x y z : Value} {ds es l : List Nat} {w : World} (hx : Dg w x ds) (hy : Dg w y es) (hz : Dg w z l) (hds : Dig ds) (hes : Dig es) (hl : Dig l) {i c j : Nat} (hc : c < 10000) (hi : i < ds.length) (hij : i + j < l.length) (hll : l.length < 1000000000) : ∀ t ∈ t_prod, t.Valid (CV 60 (vl_prod x y z ds es l i c j) w) :=
  have hs := sum_bound (hl (i + j)) (hds i) (hes j) hc
  have h0 : ds.getD i 0 * es.getD j 0 < 100000000 := by omega
  forall_cons (e_add (by omega) (pvW rfl) (pvW rfl) (rvW rfl) (by omega)) (forall_cons (e_ixW und_nat elem_nat (pvW rfl) hz (pvW rfl) hij (rvW rfl)) (forall_cons (e_ldW (pvW rfl) hz hij (rvW rfl)) (forall_cons (e_ixW und_nat elem_nat (pvW rfl) hx (pvW rfl) hi (rvW rfl)) (forall_cons (e_ldW (pvW rfl) hx hi (rvW rfl)) (forall_cons (e_digit (i := j) (pdW rfl hy) (pvW rfl) (rvW rfl))
    (forall_cons (e_mul (by rw [Int.natCast_mul]) (pvW rfl) (pvW rfl) (rvW rfl) (by omega)) (forall_cons (e_add (by omega) (pvW rfl) (pvW rfl) (rvW rfl) (by omega)) (forall_cons (e_add (by omega) (pvW rfl) (pvW rfl) (rvW rfl) (by omega))
      (forall_cons (e_rem (k := .i64) (n := 10000) (pvW rfl) pvl (rvW rfl) (by decide)) (forall_cons (e_quo (k := .i64) (n := 10000) (pvW rfl) pvl (rvW rfl) (by decide) (by rw [IntKind.wrap_i64]; omega)) (forall_cons (e_add (by omega) (pvW rfl) pvl (rvW rfl) (by omega)) forall_nil)))))))))))
def t_prodE : List Ent := [⟨.bin .quo 3, [op 14, vp (ii 10000)], .val (op 16)⟩, ⟨.bin .add 3, [op 5, vp (ii 1)], .val (op 17)⟩]
theorem prod_E {x y z : Value} {ds es l : List Nat} {w : World} (hds : Dig ds) (hes : Dig es) (hl : Dig l) {i c j : Nat} (hc : c < 10000) (hj : j < 1000000000) : ∀ t ∈ t_prodE, t.Valid (CV 60 (vl_prod x y z ds es l i c j) w) :=
  have hs := sum_bound (hl (i + j)) (hds i) (hes j) hc
  forall_cons (e_quo (k := .i64) (n := 10000) (pvW rfl) pvl (rvW rfl) (by decide) (by rw [IntKind.wrap_i64]; omega)) (forall_cons (e_add (by omega) (pvW rfl) pvl (rvW rfl) (by omega)) forall_nil)
noncomputable def b_prod : Code := bodyOf Tryz.f93
noncomputable def lo_prod : Code := inner (inner (seqR (seqL (seqR (seqR b_prod)))))
noncomputable def li_prod : Code := inner (inner (seqR (seqR (inner (seqL (seqR lo_prod))))))
abbrev vl_prodo (x y z : Value) (ds : List Nat) (i : Nat) : List Value := [x, y, z, ii (i : Int), ii (ds.length : Int), ii ((i + 1 : Nat) : Int)]

/-- The inner loop. -/
theorem prod_inner (x y z : Value) (ds es l0 : List Nat) (i B : Nat) (hi : i < ds.length) (hds : Dig ds) (hes : Dig es) (hl1 : ds.length < 100000000) (hl2 : es.length < 100000000) (hl0 : l0.length = ds.length + es.length) (hd0 : ∀ d ∈ l0, d < 10000) (hz0 : ∀ k, i + es.length ≤ k → l0.getD k 0 = 0)
    (a : Act) (w1 : World) (hx : Dg w1 x ds) (hy : Dg w1 y es) (hx0 : ∀ w', Below B w1 w' → Dg w' x ds) (hy0 : ∀ w', Below B w1 w' → Dg w' y es) (hs : St' 60 (vl_prod x y z ds es l0 i 0 0) [(0, 0), (1, 1), (5, 2), (6, 3), (7, 4), (8, 5)] a) (hown : Own B w1 z l0) (hB : B ≤ w1.heap.size) {Q : Exit → Act → World → Prop}
    (hQ : ∀ a' w' l, l.length = ds.length + es.length → (∀ d ∈ l, d < 10000) → (∀ k, i + 1 + es.length ≤ k → l.getD k 0 = 0) → nat l0 + ds.getD i 0 * (10000 ^ i * nat es) = nat l → St' 60 [x, y, z, ii (i : Int)] [(0, 0), (1, 1), (5, 2), (6, 3)] a' → Own B w' z l → Below B w1 w' → Q .normal a' w') :
    (Code.block 2 (.loop li_prod)).wp Tryz.prog Q a w1 := by
  have hx9 := hx.one
  have hy9 := hy.one
  refine while_is (Θ := Nat × Nat) (fun θ a w' => ∃ l, θ.2 < 10000 ∧ (θ.1 ≤ es.length ∨ θ.1 = es.length + 1 ∧ θ.2 = 0) ∧ l.length = ds.length + es.length ∧ (∀ d ∈ l, d < 10000) ∧ (∀ k, i + θ.1 ≤ k → i + es.length ≤ k → l.getD k 0 = 0) ∧ (∀ k, i + es.length + 1 ≤ k → l.getD k 0 = 0) ∧
      nat l0 + ds.getD i 0 * (10000 ^ i * nat (es.take θ.1)) = nat l + θ.2 * 10000 ^ (i + θ.1) ∧ St' 60 (vl_prod x y z ds es l i θ.2 θ.1) [(0, 0), (1, 1), (5, 2), (6, 3), (7, 4), (8, 5)] a ∧ Own B w' z l ∧ Below B w1 w') (fun θ => 2 * (es.length - θ.1) + min θ.2 1) ?_ (0, 0) ⟨l0, by simp, .inl (Nat.zero_le _), hl0, hd0, fun k _ h => hz0 k h, fun k h => hz0 k (by omega), by simp [nat], hs, hown, Below.refl _ _⟩
  rintro ⟨j, c⟩ a w2 ⟨l, hc, hj, hll, hdl, hz1, hz2, hnat, hs, hown, hb⟩
  have hc : c < 10000 := hc
  have hj : j ≤ es.length ∨ j = es.length + 1 ∧ c = 0 := hj
  have hnat : nat l0 + ds.getD i 0 * (10000 ^ i * nat (es.take j)) = nat l + c * 10000 ^ (i + j) := hnat
  have hz1 : ∀ k, i + j ≤ k → i + es.length ≤ k → l.getD k 0 = 0 := hz1
  have hB2 : B ≤ w2.heap.size := Nat.le_trans hB hb.size
  have one := prod_one hx9 hy9 hown.one ds es l i c j
  by_cases hend : ¬ j < es.length ∧ ¬ 0 < c
  · obtain ⟨e1, e2⟩ := hend
    refine wp_seq (seg_v [(0, 0), (1, 1), (5, 2), (6, 3), (7, 4), (8, 5)] [(0, 0), (1, 1), (5, 2), (6, 3)] (n := 30) (x := .exit 2) one (prod_G (hy0 _ hb) (decide_eq_false e1) (decide_eq_false e2)) hs (by kernel_rfl) rfl rfl (fun a5 w5 hs hb5 => ?_))
    refine hQ a5 w5 l hll hdl (fun k h => hz2 k (by omega)) ?_ ⟨hs.defers, hs.size, hs.sl⟩ (hown.below hb5) (hb.trans (hb5.mono hB2))
    rw [List.take_of_length_le (by omega), show c = 0 by omega] at hnat
    omega
  · have key : ∀ (Q' : Exit → Act → World → Prop), (∀ a' w', St' 60 (vl_prod x y z ds es l i c j) [(0, 0), (1, 1), (5, 2), (6, 3), (7, 4), (8, 5)] a' → Below w2.heap.size w2 w' → Q' .normal a' w') → (seqL li_prod).wp Tryz.prog Q' a w2 := by
      intro Q' hQ
      cases h1 : decide (j < es.length) <;> cases h2 : decide (0 < c)
      · exfalso
        exact hend ⟨of_decide_eq_false h1, of_decide_eq_false h2⟩
      all_goals exact seg_v [(0, 0), (1, 1), (5, 2), (6, 3), (7, 4), (8, 5)] [(0, 0), (1, 1), (5, 2), (6, 3), (7, 4), (8, 5)] (n := 30) (x := .normal) one (prod_G (hy0 _ hb) h1 h2) hs (by kernel_rfl) rfl rfl hQ
    have hjl : j ≤ es.length := by omega
    have hij : i + j < l.length := by omega
    have hll9 : l.length < 1000000000 := by omega
    have hdig := dig_of hdl
    refine wp_seq (key _ (fun a5 w5 hs hb5 => ?_))
    have hown := hown.below hb5
    have hb := hb.trans (hb5.mono hB2)
    have hB5 : B ≤ w5.heap.size := Nat.le_trans hB2 hb5.size
    refine wp_seq (wp_block (wp_seq (seg_v [(0, 0), (1, 1), (5, 2), (6, 3), (7, 4), (8, 5)] [(0, 0), (1, 1), (5, 2), (6, 3), (8, 5), (9, 14)] (n := 30) (x := .normal) one (prod_T (hx0 _ hb) (hy0 _ hb) hown.dg hds hes hdig hc hi hij hll9) hs (by kernel_rfl) rfl rfl (fun a6 w6 hs hb6 => ?_))))
    have hown := hown.below hb6
    have hb := hb.trans (hb6.mono hB5)
    have hB6 : B ≤ w6.heap.size := Nat.le_trans hB5 hb6.size
    refine wp_seq ?_
    show (Code.region 10 (opsOf (seqL (seqR (inner (seqL (seqR li_prod)))))).toArray false).wp Tryz.prog _ _ _
    refine store_v [(0, 0), (1, 1), (5, 2), (6, 3), (8, 5), (9, 14)] [(0, 0), (1, 1), (5, 2), (6, 3), (8, 5), (9, 14)] 7 (s := 55) (t := 54) (cp := 7) (cv := 15) (z := z) (ds := l) (j := i + j) (d := (l.getD (i + j) 0 + ds.getD i 0 * es.getD j 0 + c) % 10000) one (prod_T (hx0 _ hb) (hy0 _ hb) hown.dg hds hes hdig hc hi hij hll9) hs (by kernel_rfl) rfl rfl rfl rfl rfl rfl rfl rfl hown hB6 hij (fun a7 w7 hown hs hb7 _ => ?_)
    have hb := hb.trans hb7
    have hB7 : B ≤ w7.heap.size := Nat.le_trans hB6 hb7.size
    have hsb := sum_bound (hdig (i + j)) (hds i) (hes j) hc
    refine seg_v [(0, 0), (1, 1), (5, 2), (6, 3), (8, 5), (9, 14)] [(0, 0), (1, 1), (5, 2), (6, 3), (7, 16), (8, 5)] (n := 30) (x := .normal) one (prod_E hds hes hdig hc (by omega)) hs (by kernel_rfl) rfl rfl (fun a8 w8 hs hb8 => ?_)
    have hown := hown.below hb8
    have hb := hb.trans (hb8.mono hB7)
    have hB8 : B ≤ w8.heap.size := Nat.le_trans hB7 hb8.size
    show (seqR (seqR li_prod)).wp Tryz.prog _ _ _
    refine seg_v [(0, 0), (1, 1), (5, 2), (6, 3), (7, 16), (8, 5)] [(0, 0), (1, 1), (5, 2), (6, 3), (7, 16), (8, 17)] (n := 30) (x := .normal) one (prod_E hds hes hdig hc (by omega)) hs (by kernel_rfl) rfl rfl (fun a9 w9 hs hb9 => ?_)
    have hown := hown.below hb9
    have hb := hb.trans (hb9.mono hB8)
    have hlast : j = es.length → (l.getD (i + j) 0 + ds.getD i 0 * es.getD j 0 + c) / 10000 = 0 := by
      rintro rfl
      rw [hz1 _ (Nat.le_refl _) (Nat.le_refl _), getD_out (Nat.le_refl _)]
      simp; omega
    refine ⟨(j + 1, (l.getD (i + j) 0 + ds.getD i 0 * es.getD j 0 + c) / 10000), ⟨l.set (i + j) ((l.getD (i + j) 0 + ds.getD i 0 * es.getD j 0 + c) % 10000), ?_, ?_, ?_, ?_, ?_, ?_, ?_, ⟨hs.defers, hs.size, hs.sl⟩, hown, hb⟩, ?_⟩
    · show (l.getD (i + j) 0 + ds.getD i 0 * es.getD j 0 + c) / 10000 < 10000
      omega
    · rcases Nat.lt_or_ge j es.length with h | h
      · exact .inl (by show j + 1 ≤ _; omega)
      · exact .inr ⟨by show j + 1 = _; omega, hlast (by omega)⟩
    · rw [List.length_set]; exact hll
    · exact mem_set_lt hdl (by omega)
    · intro k h1 h2
      have h1 : i + (j + 1) ≤ k := h1
      rw [getD_setN (by omega)]
      exact hz1 k (by omega) h2
    · intro k h1
      rw [getD_setN (by omega)]
      exact hz2 k h1
    · show nat l0 + ds.getD i 0 * (10000 ^ i * nat (es.take (j + 1))) = nat (l.set (i + j) _) + (l.getD (i + j) 0 + ds.getD i 0 * es.getD j 0 + c) / 10000 * 10000 ^ (i + (j + 1))
      have h1 := nat_set (v := (l.getD (i + j) 0 + ds.getD i 0 * es.getD j 0 + c) % 10000) hij
      have h2 := Nat.mod_add_div (l.getD (i + j) 0 + ds.getD i 0 * es.getD j 0 + c) 10000
      rw [nat_take]
      generalize (l.getD (i + j) 0 + ds.getD i 0 * es.getD j 0 + c) % 10000 = v at h1 h2 ⊢
      generalize (l.getD (i + j) 0 + ds.getD i 0 * es.getD j 0 + c) / 10000 = q at h2 ⊢
      have e1 : ds.getD i 0 * (10000 ^ i * (nat (es.take j) + 10000 ^ j * es.getD j 0)) = ds.getD i 0 * (10000 ^ i * nat (es.take j)) + 10000 ^ (i + j) * (ds.getD i 0 * es.getD j 0) := by
        rw [Nat.pow_add]
        grind
      have e2 : q * 10000 ^ (i + (j + 1)) = 10000 ^ (i + j) * (10000 * q) := by
        rw [show i + (j + 1) = i + j + 1 by omega, Nat.pow_succ]
        grind
      have e3 : 10000 ^ (i + j) * v + 10000 ^ (i + j) * (10000 * q) = 10000 ^ (i + j) * l.getD (i + j) 0 + 10000 ^ (i + j) * (ds.getD i 0 * es.getD j 0) + c * 10000 ^ (i + j) := by
        rw [← Nat.mul_add, h2, Nat.mul_add, Nat.mul_add, Nat.mul_comm c]
      rw [e1, e2]
      omega
    · show 2 * (es.length - (j + 1)) + min ((l.getD (i + j) 0 + ds.getD i 0 * es.getD j 0 + c) / 10000) 1 < 2 * (es.length - j) + min c 1
      rcases Nat.lt_or_ge j es.length with h | h
      · omega
      · have := hlast (by omega)
        rw [this]
        omega

abbrev vl_prod0 (x y : Value) (ds es : List Nat) : List Value := [x, y, ii (ds.length : Int), ii (es.length : Int), ii ((ds.length + es.length : Nat) : Int)]
theorem nat_zeros : ∀ n : Nat, nat (List.replicate n 0) = 0
  | 0 => rfl
  | n + 1 => by
    show 0 + 10000 * nat (List.replicate n 0) = 0
    rw [nat_zeros n]
theorem product_ok (x y : Value) (ds es : List Nat) (w : World) (hx : Dg w x ds) (hy : Dg w y es) (hds : Dig ds) (hes : Dig es) (hl1 : ds.length < 100000000) (hl2 : es.length < 100000000) : Calls Tryz.prog 93 #[x, y] w (fun e w' => ∃ v, e = .returned v ∧ Dg w' v (digs (nat ds * nat es)) ∧ Below w.heap.size w w') := by
  refine calls_v2 (nt := 60) (f := 93) Tryz.func93 (c := .seq (seqL b_prod) (.seq (seqL (seqR b_prod)) (.seq (.seq (seqL (seqL (seqR (seqR b_prod)))) (.block 0 (.loop lo_prod))) (seqR (seqR (seqR b_prod)))))) rfl rfl rfl x y (fun a hs => ?_)
  have one2 : ∀ v ∈ [x, y], v.oneCell' = true := one_cons hx.one (one_cons hy.one one_nil)
  refine wp_seq (seg_v (T := []) [(0, 0), (1, 1)] [(0, 0), (1, 1)] (n := 30) (x := .normal) one2 forall_nil hs (by kernel_rfl) rfl rfl (fun a1 w1 hs hb1 => ?_))
  refine wp_seq ?_
  have one5 : ∀ v ∈ vl_prod0 x y ds es, v.oneCell' = true := one_cons hx.one (one_cons hy.one (one_cons rfl (one_cons rfl (one_cons rfl one_nil))))
  have hT : ∀ t ∈ [(⟨.blt .len [31] 3, [op 0], .val (op 2)⟩ : Ent), ⟨.blt .len [31] 3, [op 1], .val (op 3)⟩, ⟨.bin .add 3, [op 2, op 3], .val (op 4)⟩], t.Valid (CV 60 (vl_prod0 x y ds es) w1) :=
    forall_cons (e_len und_nat (pdW rfl (hx.below hb1 (Nat.le_refl _))) (rvW rfl)) (forall_cons (e_len und_nat (pdW rfl (hy.below hb1 (Nat.le_refl _))) (rvW rfl)) (forall_cons (e_add (by omega) (pvW rfl) (pvW rfl) (rvW rfl) (by omega)) forall_nil))
  have hs : St' 60 (vl_prod0 x y ds es) [(0, 0), (1, 1)] a1 := ⟨hs.defers, hs.size, hs.sl⟩
  show (Code.region 1 (opsOf (seqL (seqR b_prod))).toArray false).wp Tryz.prog _ _ _
  refine make_v [(0, 0), (1, 1)] [(0, 0), (1, 1)] 5 (s := 14) (d := 15) (t := 5) (B := w.heap.size) (n := ds.length + es.length) one5 hT hs 4 (by kernel_rfl) rfl rfl rfl rfl rfl rfl rfl rfl rfl rfl rfl rfl rfl rfl hb1.size (by omega) (fun z a2 w2 hz hown hs hb2 => ?_)
  have hb := hb1.trans hb2
  have hs : St' 60 [x, y, z] [(5, 2), (0, 0), (1, 1)] a2 := ⟨hs.defers, hs.size, hz, hs.sl⟩
  have one3 : ∀ v ∈ [x, y, z], v.oneCell' = true := one_cons hx.one (one_cons hy.one (one_cons hown.one one_nil))
  refine wp_seq (wp_seq (seg_vl (T := []) [(5, 2), (0, 0), (1, 1)] [(5, 2), (0, 0), (1, 1)] [(6, ii 0)] (n := 30) (x := .normal) one3 forall_nil hs (by kernel_rfl) rfl rfl (fun a3 w3 hs hl6 hb3 => ?_)))
  have hown := hown.below hb3
  have hb := hb.trans (hb3.mono hb.size)
  have hs : St' 60 (vl_prodo x y z ds 0) [(0, 0), (1, 1), (5, 2), (6, 3)] a3 := ⟨hs.defers, hs.size, hs.sl.2.1, hs.sl.2.2.1, hs.sl.1, hl6.1, trivial⟩
  refine while_is (Θ := Nat) (fun i a w1 => ∃ l, i ≤ ds.length ∧ l.length = ds.length + es.length ∧ (∀ d ∈ l, d < 10000) ∧ (∀ k, i + es.length ≤ k → l.getD k 0 = 0) ∧ nat l = nat (ds.take i) * nat es ∧ St' 60 (vl_prodo x y z ds i) [(0, 0), (1, 1), (5, 2), (6, 3)] a ∧ Own w.heap.size w1 z l ∧ Below w.heap.size w w1) (fun i => ds.length - i) ?_ 0 ⟨List.replicate (ds.length + es.length) 0, Nat.zero_le _, List.length_replicate, fun d hd => by have := List.eq_of_mem_replicate hd; omega, fun k hk => by rw [List.getD_eq_getElem?_getD, List.getElem?_replicate]; split <;> rfl, by rw [nat_zeros]; simp [nat], hs, hown, hb⟩
  rintro i a w1 ⟨l, hi, hll, hdl, hz0, hnat, hs, hown, hb⟩
  have one : ∀ v ∈ vl_prodo x y z ds i, v.oneCell' = true := one_cons hx.one (one_cons hy.one (one_cons hown.one (one_cons rfl (one_cons rfl (one_cons rfl one_nil)))))
  have hT : ∀ (b : Bool) w1, Below w.heap.size w w1 → decide (i < ds.length) = b → ∀ t ∈ [(⟨.blt .len [31] 3, [op 0], .val (op 4)⟩ : Ent), ⟨.bin .lss 3, [op 3, op 4], .val (vp (.bool b))⟩, ⟨.bin .add 3, [op 3, vp (ii 1)], .val (op 5)⟩], t.Valid (CV 60 (vl_prodo x y z ds i) w1) := fun b w1 hb h =>
    forall_cons (e_len und_nat (pdW rfl (hx.below hb (Nat.le_refl _))) (rvW rfl)) (forall_cons (e_lss (pvW rfl) (pvW rfl) (by rw [← h]; simp)) (forall_cons (e_add (by omega) (pvW rfl) pvl (rvW rfl) (by omega)) forall_nil))
  by_cases hend : i < ds.length
  · refine wp_seq (seg_v [(0, 0), (1, 1), (5, 2), (6, 3)] [(0, 0), (1, 1), (5, 2), (6, 3)] (n := 30) (x := .normal) one (hT true w1 hb (decide_eq_true hend)) hs (by kernel_rfl) rfl rfl (fun a5 w5 hs hb5 => ?_))
    have hown := hown.below hb5
    have hb := hb.trans (hb5.mono hb.size)
    refine wp_seq (wp_block (wp_seq (seg_vl (T := []) [(0, 0), (1, 1), (5, 2), (6, 3)] [(0, 0), (1, 1), (5, 2), (6, 3)] [(7, ii 0)] (n := 30) (x := .normal) one forall_nil hs (by kernel_rfl) rfl rfl (fun a6 w6 hs hl7 hb6 => ?_))))
    have hown := hown.below hb6
    have hb := hb.trans (hb6.mono hb.size)
    have hs : St' 60 [x, y, z, ii (i : Int), ii 0] [(0, 0), (1, 1), (5, 2), (6, 3), (7, 4)] a6 := ⟨hs.defers, hs.size, hs.sl.1, hs.sl.2.1, hs.sl.2.2.1, hs.sl.2.2.2.1, hl7.1, trivial⟩
    have one5 : ∀ v ∈ [x, y, z, ii (i : Int), ii 0], v.oneCell' = true := one_cons hx.one (one_cons hy.one (one_cons hown.one (one_cons rfl (one_cons rfl one_nil))))
    refine wp_seq (seg_vl (T := []) [(0, 0), (1, 1), (5, 2), (6, 3), (7, 4)] [(0, 0), (1, 1), (5, 2), (6, 3), (7, 4)] [(8, ii 0)] (n := 30) (x := .normal) one5 forall_nil hs (by kernel_rfl) rfl rfl (fun a7 w7 hs hl8 hb7 => ?_))
    have hown := hown.below hb7
    have hb := hb.trans (hb7.mono hb.size)
    have hs : St' 60 (vl_prod x y z ds es l i 0 0) [(0, 0), (1, 1), (5, 2), (6, 3), (7, 4), (8, 5)] a7 := ⟨hs.defers, hs.size, hs.sl.1, hs.sl.2.1, hs.sl.2.2.1, hs.sl.2.2.2.1, hs.sl.2.2.2.2.1, hl8.1, trivial⟩
    refine prod_inner x y z ds es l i w.heap.size hend hds hes hl1 hl2 hll hdl hz0 a7 w7 (hx.below hb (Nat.le_refl _)) (hy.below hb (Nat.le_refl _)) (fun w' h => hx.below (hb.trans h) (Nat.le_refl _)) (fun w' h => hy.below (hb.trans h) (Nat.le_refl _)) hs hown hb.size (fun a8 w8 l' hll' hdl' hz' hnat' hs hown hb8 => ?_)
    have hb := hb.trans hb8
    have hs : St' 60 (vl_prodo x y z ds i) [(0, 0), (1, 1), (5, 2), (6, 3)] a8 := ⟨hs.defers, hs.size, hs.sl⟩
    show (seqR (seqR lo_prod)).wp Tryz.prog _ _ _
    refine seg_v [(0, 0), (1, 1), (5, 2), (6, 3)] [(0, 0), (1, 1), (5, 2), (6, 5)] (n := 30) (x := .normal) one (hT true w8 hb (decide_eq_true hend)) hs (by kernel_rfl) rfl rfl (fun a9 w9 hs hb9 => ?_)
    refine ⟨i + 1, ⟨l', by omega, hll', hdl', hz', ?_, ⟨hs.defers, hs.size, hs.sl⟩, hown.below hb9, hb.trans (hb9.mono hb.size)⟩, by show ds.length - (i + 1) < ds.length - i; omega⟩
    rw [← hnat', hnat, nat_take]
    grind
  · refine wp_seq (seg_v [(0, 0), (1, 1), (5, 2), (6, 3)] [(5, 2)] (n := 30) (x := .exit 0) one (hT false w1 hb (decide_eq_false hend)) hs (by kernel_rfl) rfl rfl (fun a5 w5 hs hb5 => ?_))
    have hown := hown.below hb5
    have hb := hb.trans (hb5.mono hb.size)
    have hs : St' 60 [z] [(5, 0)] a5 := ⟨hs.defers, hs.size, hs.sl⟩
    have hC : (mkC [1, 1] [false, false] [] 60 [clW z, clD (strip l)] w5).Ok := mkC_ok (oks_cons (clW_ok hown.one) (oks_cons (clD_ok noT _) oks_nil)) rfl rfl
    have hT : ∀ t ∈ [(⟨.call 123, [op 0], .val (op 1)⟩ : Ent)], t.Valid (mkC [1, 1] [false, false] [] 60 [clW z, clD (strip l)] w5) := forall_cons (e_trim (pdW rfl hown.dg) (rd rfl)) forall_nil
    refine seg_vd (vl := [z]) [(5, 0)] [] (t := 4) (ds := strip l) hC hT hs 1 (fun i hi => ?_) rfl (n := 30) (x := .ret) (by kernel_rfl) rfl rfl (fun a6 w6 v h4 hv hs hb6 => ret_v rfl hs.defers h4 ⟨v, rfl, ?_, hb.trans (hb6.mono hb.size)⟩)
    · have hi : i < 1 := hi
      obtain rfl : i = 0 := by omega
      rfl
    · rw [List.take_of_length_le (by omega)] at hnat
      rw [← hnat, digs_nat hdl]
      exact hv
end Sym
end Go.Proofs.YtccabfblgjcboaaGreatDoor

/- Contexts of values by name beside lists; one list put behind another. -/
namespace Go.Proofs.YtccabfblgjcboaaGreatDoor
open Go Go.RowKit Go.Proofs Lim
namespace Sym
section
variable {csz : List Nat} {numc : List Bool} {nt : Nat} {vl : List Value} {cl : List Cl} {w0 w : World} {a : Act} {T : List Ent} {Q : Exit → Act → World → Prop}
theorem items_gen (hcl : ∀ i, i < vl.length → cl[i]? = some (clW (vl.getD i undef))) {rest : List Item} : ∀ {is : List (Nat × Nat)} {bs : List Nat}, Sl a vl is → inVl is vl.length = true → (∀ bs, ItemsAre (mkC csz numc [] nt cl w0) a w rest bs) → ItemsAre (mkC csz numc [] nt cl w0) a w (itemsOf is ++ rest) bs
  | [], bs, _, _, hr => hr bs
  | p :: l, bs, h, hi, hr => by
    unfold inVl at hi
    split at hi
    · rename_i hp
      exact ⟨⟨_, h.1, (op_isW (hcl _ (by simpa using hp))).2 rfl⟩, items_gen hcl h.2 hi hr⟩
    · cases hi
theorem sl_gen (hcl : ∀ i, i < vl.length → cl[i]? = some (clW (vl.getD i undef))) {rest : List Item} : ∀ {is : List (Nat × Nat)} {bs : List Nat}, inVl is vl.length = true → ItemsAre (mkC csz numc [] nt cl w0) a w (itemsOf is ++ rest) bs → Sl a vl is ∧ ItemsAre (mkC csz numc [] nt cl w0) a w rest bs
  | [], bs, _, h => ⟨trivial, h⟩
  | p :: l, bs, hi, h => by
    unfold inVl at hi
    split at hi
    · rename_i hp
      obtain ⟨⟨v, h1, h2⟩, h3⟩ := h
      rw [(op_isW (hcl _ (by simpa using hp))).1 h2] at h1
      obtain ⟨q1, q2⟩ := sl_gen hcl hi h3
      exact ⟨⟨h1, q1⟩, q2⟩
    · cases hi
/-- The context of values and of lists. -/
noncomputable def CX (nt : Nat) (vl : List Value) (ys : List Cl) (w : World) : Ctx := mkC (vl.map (fun _ => 1) ++ ys.map (·.n)) (vl.map (fun _ => false) ++ ys.map (·.num)) [] nt (vl.map clW ++ ys) w
theorem CX_ok {ys : List Cl} (h : ∀ v ∈ vl, v.oneCell' = true) (hy : ∀ y ∈ ys, y.Ok [] w.heap.size) : (CX nt vl ys w).Ok := by
  refine mkC_ok (fun x hx => ?_) (by rw [List.map_append, List.map_map]; rfl) (by rw [List.map_append, List.map_map]; rfl)
  rcases List.mem_append.1 hx with hx | hx
  · obtain ⟨v, hv, rfl⟩ := List.mem_map.1 hx
    exact clW_ok (h v hv)
  · exact hy x hx
theorem CX_get {ys : List Cl} : ∀ i, i < vl.length → (vl.map clW ++ ys)[i]? = some (clW (vl.getD i undef)) := fun i hi => by
  rw [List.getElem?_append_left (by simpa using hi)]
  exact getVl hi
/-- **A piece with lists in between.** -/
theorem seg_x (ys : List Cl) (pre post : List (Nat × Nat)) {n : Nat} {c : Code} {x : Xt} (h1 : ∀ v ∈ vl, v.oneCell' = true) (hy : ∀ y ∈ ys, y.Ok [] w.heap.size) (hT : ∀ t ∈ T, t.Valid (CX nt vl ys w)) (hs : St' nt vl pre a)
    (h : segB (CX nt vl ys w).toStat T n c (itemsOf pre ++ []) x (itemsOf post ++ []) = true) (hi : inVl pre vl.length = true) (hi' : inVl post vl.length = true)
    (hQ : ∀ a' w', St' nt vl post a' → Below w.heap.size w w' → Q x.to a' w') : c.wp Tryz.prog Q a w := by
  refine seg_is (CX_ok h1 hy) hT h ⟨Below.refl _ _, hs.defers, hs.size, items_gen CX_get hs.sl hi (fun _ => trivial)⟩ (fun a' w' hA => ?_)
  exact hQ a' w' ⟨hA.defers, hA.size, (sl_gen CX_get hi' hA.items).1⟩ hA.below
/-- Besides, a list at the end. -/
theorem seg_xd (ys : List Cl) (pre post : List (Nat × Nat)) (t d : Nat) {ds : List Nat} {n : Nat} {c : Code} {x : Xt} (h1 : ∀ v ∈ vl, v.oneCell' = true) (hy : ∀ y ∈ ys, y.Ok [] w.heap.size) (hT : ∀ t ∈ T, t.Valid (CX nt vl ys w)) (hs : St' nt vl pre a) (hd : (vl.map clW ++ ys)[d]? = some (clD ds))
    (h : segB (CX nt vl ys w).toStat T n c (itemsOf pre ++ []) x (itemsOf post ++ [.val t (op d)]) = true) (hi : inVl pre vl.length = true) (hi' : inVl post vl.length = true)
    (hQ : ∀ a' w' v, a'.tmps[t]? = some v → Dg w' v ds → St' nt vl post a' → Below w.heap.size w w' → Q x.to a' w') : c.wp Tryz.prog Q a w := by
  refine seg_is (CX_ok h1 hy) hT h ⟨Below.refl _ _, hs.defers, hs.size, items_gen CX_get hs.sl hi (fun _ => trivial)⟩ (fun a' w' hA => ?_)
  obtain ⟨q1, ⟨⟨v, q2, q3⟩, _⟩⟩ := sl_gen CX_get hi' hA.items
  exact hQ a' w' v q2 ((op_isD hd).1 q3) ⟨hA.defers, hA.size, q1⟩ hA.below
/-- And where it lies. -/
theorem seg_xf (ys : List Cl) (pre post : List (Nat × Nat)) (t d : Nat) {ds : List Nat} {B : Nat} {n : Nat} {c : Code} {x : Xt} (h1 : ∀ v ∈ vl, v.oneCell' = true) (hy : ∀ y ∈ ys, y.Ok [] w.heap.size) (hT : ∀ t ∈ T, t.Valid (CX nt vl ys w)) (hs : St' nt vl pre a) (hd : (vl.map clW ++ ys)[d]? = some (clF B ds))
    (h : segB (CX nt vl ys w).toStat T n c (itemsOf pre ++ []) x (itemsOf post ++ [.val t (op d)]) = true) (hi : inVl pre vl.length = true) (hi' : inVl post vl.length = true)
    (hQ : ∀ a' w' v, a'.tmps[t]? = some v → Dg w' v ds → (∀ k, v.ownBlock = some k → B ≤ k) → St' nt vl post a' → Below w.heap.size w w' → Q x.to a' w') : c.wp Tryz.prog Q a w := by
  refine seg_is (CX_ok h1 hy) hT h ⟨Below.refl _ _, hs.defers, hs.size, items_gen CX_get hs.sl hi (fun _ => trivial)⟩ (fun a' w' hA => ?_)
  obtain ⟨q1, ⟨⟨v, q2, q3⟩, _⟩⟩ := sl_gen CX_get hi' hA.items
  exact hQ a' w' v q2 ((op_isF hd).1 q3).1 ((op_isF hd).1 q3).2 ⟨hA.defers, hA.size, q1⟩ hA.below
/-- One list is put behind another. -/
theorem wp_cat {ops : Array Oper} {rest : List Oper} {o : Oper} {B s x : Nat} {z v : Value} {l rs : List Nat} (hgd : o.guard = none) (ho : o.op = .call { callee := .builtin .append, args := #[.tmp s, .tmp x], argTypes := #[31, 31] })
    (hs : a.tmps[s]? = some z) (hx : a.tmps[x]? = some v) (hv : Dg w v rs) (hown : Own B w z l) (hB : B ≤ w.heap.size) (hl : l.length + rs.length < 1000000000)
    (h : ∀ z' w', Own B w' z' (l ++ rs) → w.grownBy w' z.ownBlock → wpList Tryz.prog ops Q rest (a.put o.dst z') w') : wpList Tryz.prog ops Q (o :: rest) a w := by
  have hs' : a.eval (.tmp s) = z := by simp [Act.eval, Array.getD_eq_getD_getElem?, hs]
  obtain ⟨i, hi, hz, q1, q2⟩ := info_int
  obtain ⟨ao, cap, rfl, h1, h2, h3⟩ := hv
  have hx' : a.eval (.tmp x) = .slice ao rs.length cap := by simp [Act.eval, Array.getD_eq_getD_getElem?, hx]
  cases ao with
  | none =>
    have hr0 : rs = [] := by
      cases rs with
      | nil => rfl
      | cons r rs =>
        obtain ⟨b, off, h4, _⟩ := h3 (by simp)
        cases h4
    subst hr0
    refine wpList_plain hgd fun K hK => ?_
    have hr : (Builtin.append_ #[31, 31] o.type #[z, .slice none 0 cap]).run Tryz.prog w = .ok z w := by
      have hu : Tryz.prog.underlying 31 = some (.slice 3) := by kernel_rfl
      rcases hown.2 with ⟨rfl, _⟩ | ⟨g, cap', cur, rfl, _, _, hnc, _⟩
      · simp [Builtin.append_, run_underlying hu, sizeOf, typeInfo, hi, Builtin.lenOf, Builtin.firstCells]
      · simp [Builtin.append_, run_underlying hu, sizeOf, typeInfo, hi, Builtin.lenOf, Builtin.firstCells, hnc, storeCells]
    unfold Oper.wp execOp
    simp only [ho, resolve, invoke, builtin, Sem.run_bind, Sem.run_pure, Result.andThen_ok, List.map_toArray, List.map_cons, List.map_nil, hs', hx', List.length_nil, hr]
    exact hK _ _ (h z w (by rw [List.append_nil]; exact hown) ⟨rfl, rfl, rfl, Nat.le_refl _, fun _ _ _ => rfl⟩)
  | some ad =>
    refine wpList_append_own w hgd (.tmp s) (.tmp x) 31 ho B 3 i (ii 0) 1 8 (by kernel_rfl) hi hz q1 q2 rfl (by decide) z l.length _ hs' hown ad rs.length cap (rs.map (fun d : Nat => ii (d : Int))) hx' (by simp) ?_ ?_ (by simp only [maxLen]; omega) (by omega) hB ?_
    · intro j u hj
      have hjl : j < rs.length := by
        rcases Nat.lt_or_ge j rs.length with h | h
        · exact h
        · rw [List.getElem?_eq_none (by simpa using h)] at hj; cases hj
      obtain ⟨b, off, h4, _, h5⟩ := h3 (by omega)
      have h4 : ad = ⟨b, off, none⟩ := Option.some.inj h4
      subst h4
      have := h5 j hjl
      rw [List.getElem?_map, List.getElem?_eq_getElem hjl] at hj
      have hu : u = ii ((rs.getD j 0 : Nat) : Int) := by
        have : rs.getD j 0 = rs[j] := by simp [List.getD, hjl]
        rw [this]
        simpa using hj.symm
      rw [hu, addr_add]
      exact this
    · intro u hu
      obtain ⟨d, _, rfl⟩ := List.mem_map.1 hu
      rfl
    · intro z' w' g1 g2 _
      refine h z' w' ?_ g2
      have : Own B w' z' (l ++ rs) = w'.ownsRow B 3 1 z' (l.length + rs.length) ((l.map (fun d : Nat => ii (d : Int))) ++ rs.map (fun d : Nat => ii (d : Int))) := by simp [Own]
      rw [this]
      exact g1
end
end Sym
end Go.Proofs.YtccabfblgjcboaaGreatDoor

/- The reference's Divide. -/
namespace Go.Proofs.YtccabfblgjcboaaGreatDoor
open Go Go.RowKit Go.Proofs Lim
namespace Sym

theorem nat_digs (n : Nat) : nat (digs n) = n := by
  induction n using Nat.strongRecOn with
  | _ n ih =>
    by_cases h0 : n = 0
    · subst h0; rw [digs_zero]; rfl
    · rw [digs_pos h0]
      show n % 10000 + 10000 * nat (digs (n / 10000)) = n
      rw [ih _ (by omega)]
      omega
theorem digs_lt (n : Nat) : ∀ d ∈ digs n, d < 10000 := by
  induction n using Nat.strongRecOn with
  | _ n ih =>
    by_cases h0 : n = 0
    · subst h0; rw [digs_zero]; simp
    · rw [digs_pos h0]
      intro d hd
      rcases List.mem_cons.1 hd with rfl | hd
      · omega
      · exact ih _ (by omega) d hd
theorem digs_mono {a b : Nat} (h : a ≤ b) : (digs a).length ≤ (digs b).length := by
  induction b using Nat.strongRecOn generalizing a with
  | _ b ih =>
    by_cases h0 : a = 0
    · subst h0; rw [digs_zero]; simp
    · rw [digs_pos h0, digs_pos (n := b) (by omega)]
      have := ih (b / 10000) (by omega) (a := a / 10000) (Nat.div_le_div_right h)
      simp only [List.length_cons]
      omega
theorem dig_digs (n : Nat) : Dig (digs n) := dig_of (digs_lt n)

section
variable {csz : List Nat} {numc : List Bool} {okT : List Nat} {nt : Nat} {cl : List Cl} {w0 : World} {p1 p2 : Pat} {res : RPat} {ds es : List Nat} {n : Nat}
theorem e_small (hn : n < 18446744073709551616) (h1 : PV csz numc okT nt cl w0 p1 (ui n)) (h3 : RD csz numc okT nt cl w0 res (digs n)) : V csz numc okT nt cl w0 (.call 87) [p1] res := by
  refine ⟨enters_of Tryz.func87 (by kernel_rfl) rfl, fun w vs hb hvs => ?_⟩
  obtain ⟨v1, _, rfl, h4, rfl⟩ := hvs
  obtain rfl := h1 _ _ h4
  refine (small_ok n hn w).mono ?_
  rintro e w' ⟨v, rfl, hv, hb'⟩
  exact ⟨_, rfl, h3 w' v hv, hb'⟩
theorem e_product (h1 : PD csz numc okT nt cl w0 p1 ds) (h2 : PD csz numc okT nt cl w0 p2 es) (hds : Dig ds) (hes : Dig es) (hl1 : ds.length < 100000000) (hl2 : es.length < 100000000) (h3 : RD csz numc okT nt cl w0 res (digs (nat ds * nat es))) : V csz numc okT nt cl w0 (.call 93) [p1, p2] res := by
  refine ⟨enters_of Tryz.func93 (by kernel_rfl) rfl, fun w vs hb hvs => ?_⟩
  obtain ⟨v1, _, rfl, h4, v2, _, rfl, h5, rfl⟩ := hvs
  refine (product_ok v1 v2 ds es w (h1 _ _ hb h4) (h2 _ _ hb h5) hds hes hl1 hl2).mono ?_
  rintro e w' ⟨v, rfl, hv, hb'⟩
  exact ⟨_, rfl, h3 w' v hv, hb'⟩
theorem e_order (h1 : PD csz numc okT nt cl w0 p1 ds) (h2 : PD csz numc okT nt cl w0 p2 es) (hds : Dig ds) (hes : Dig es) (h3 : RV csz numc okT nt cl w0 res (ii (cmpN (nat ds) (nat es)))) : V csz numc okT nt cl w0 (.call 89) [p1, p2] res := by
  refine ⟨enters_of Tryz.func89 (by kernel_rfl) rfl, fun w vs hb hvs => ?_⟩
  obtain ⟨v1, _, rfl, h4, v2, _, rfl, h5, rfl⟩ := hvs
  refine (order_ok v1 v2 ds es w (h1 _ _ hb h4) (h2 _ _ hb h5) hds hes).mono ?_
  rintro e w' ⟨rfl, hb'⟩
  exact ⟨_, rfl, h3 w', hb'⟩
theorem e_rest (h1 : PD csz numc okT nt cl w0 p1 ds) (h2 : PD csz numc okT nt cl w0 p2 es) (hds : Dig ds) (hes : Dig es) (hl1 : ds.length < 100000000) (hl2 : es.length ≤ ds.length) (hle : nat es ≤ nat ds) (h3 : RD csz numc okT nt cl w0 res (digs (nat ds - nat es))) : V csz numc okT nt cl w0 (.call 95) [p1, p2] res := by
  refine ⟨enters_of Tryz.func95 (by kernel_rfl) rfl, fun w vs hb hvs => ?_⟩
  obtain ⟨v1, _, rfl, h4, v2, _, rfl, h5, rfl⟩ := hvs
  refine (rest_ok v1 v2 ds es w (h1 _ _ hb h4) (h2 _ _ hb h5) hds hes hl1 hl2 hle).mono ?_
  rintro e w' ⟨v, rfl, hv, _, hb'⟩
  exact ⟨_, rfl, h3 w' v hv, hb'⟩
theorem e_restF {B : Nat} (h1 : PD csz numc okT nt cl w0 p1 ds) (h2 : PD csz numc okT nt cl w0 p2 es) (hds : Dig ds) (hes : Dig es) (hl1 : ds.length < 100000000) (hl2 : es.length ≤ ds.length) (hle : nat es ≤ nat ds) (hB : B ≤ w0.heap.size) (h3 : RF csz numc okT nt cl w0 res B (digs (nat ds - nat es))) : V csz numc okT nt cl w0 (.call 95) [p1, p2] res := by
  refine ⟨enters_of Tryz.func95 (by kernel_rfl) rfl, fun w vs hb hvs => ?_⟩
  obtain ⟨v1, _, rfl, h4, v2, _, rfl, h5, rfl⟩ := hvs
  refine (rest_ok v1 v2 ds es w (h1 _ _ hb h4) (h2 _ _ hb h5) hds hes hl1 hl2 hle).mono ?_
  rintro e w' ⟨v, rfl, hv, hfr, hb'⟩
  exact ⟨_, rfl, h3 w' v hv (fun k hk => Nat.le_trans hB (Nat.le_trans hb.size (hfr k hk))), hb'⟩
end

noncomputable def b_div : Code := bodyOf Tryz.f100
noncomputable def lo_div : Code := inner (inner (seqR (seqL (seqR (seqR (seqR b_div))))))
noncomputable def li_div : Code := inner (inner (seqL (seqR (seqR (inner (seqL (seqR lo_div)))))))
abbrev vl_di (x y q r : Value) (i : Int) (Y R low high : Nat) : List Value := [x, y, q, r, ii i, ii (low : Int), ii (high : Int), ii ((high - low : Nat) : Int), ii ((low + high : Nat) : Int), ii (((low + high) / 2 : Nat) : Int), ui ((low + high) / 2), ii (cmpN (Y * ((low + high) / 2)) R)]
def t_di (b2 : Bool) : List Ent := [⟨.bin .sub 3, [op 6, op 5], .val (op 7)⟩, ⟨.bin .gtr 3, [op 7, vp (ii 1)], .val (vp (.bool true))⟩, ⟨.bin .add 3, [op 5, op 6], .val (op 8)⟩, ⟨.bin .quo 3, [op 8, vp (ii 2)], .val (op 9)⟩, ⟨.cv 3 23, [op 9], .val (op 10)⟩, ⟨.call 87, [op 10], .val (op 12)⟩, ⟨.call 93, [op 1, op 12], .val (op 13)⟩, ⟨.call 89, [op 13, op 3], .val (op 11)⟩, ⟨.bin .leq 3, [op 11, vp (ii 0)], .val (vp (.bool b2))⟩]
def t_di0 : List Ent := [⟨.bin .sub 3, [op 6, op 5], .val (op 7)⟩, ⟨.bin .gtr 3, [op 7, vp (ii 1)], .val (vp (.bool false))⟩]
theorem cmpN_le {a b : Nat} : cmpN a b ≤ 0 ↔ a ≤ b := by unfold cmpN; split <;> (try split) <;> omega
theorem div_inner (x y q r : Value) (i : Int) (es rl : List Nat) (hes : Dig es) (hrl : Dig rl) (hl1 : es.length < 100000000) (hx1 : x.oneCell' = true) (hq1 : q.oneCell' = true) (a : Act) (w1 : World) (hy : Dg w1 y es) (hr : Dg w1 r rl) (h10 : nat rl < 10000 * nat es)
    (hs : St' 63 (vl_di x y q r i (nat es) (nat rl) 0 10000) [(0, 0), (1, 1), (6, 2), (7, 3), (8, 4), (9, 5), (10, 6)] a) {Q : Exit → Act → World → Prop}
    (hQ : ∀ a' w', St' 63 [x, y, q, r, ii i, ii ((nat rl / nat es : Nat) : Int)] [(0, 0), (1, 1), (6, 2), (7, 3), (8, 4), (9, 5)] a' → Below w1.heap.size w1 w' → Q .normal a' w') : (Code.block 2 (.loop li_div)).wp Tryz.prog Q a w1 := by
  refine while_is (Θ := Nat × Nat) (fun θ a w' => θ.2 ≤ 10000 ∧ θ.1 < θ.2 ∧ nat es * θ.1 ≤ nat rl ∧ nat rl < nat es * θ.2 ∧ St' 63 (vl_di x y q r i (nat es) (nat rl) θ.1 θ.2) [(0, 0), (1, 1), (6, 2), (7, 3), (8, 4), (9, 5), (10, 6)] a ∧ Below w1.heap.size w1 w') (fun θ => θ.2 - θ.1) ?_ (0, 10000) ⟨Nat.le_refl _, by decide, by simp, by show nat rl < nat es * 10000; omega, hs, Below.refl _ _⟩
  rintro ⟨low, high⟩ a w2 ⟨hh, hlh, h1, h2, hs, hb⟩
  have hh : high ≤ 10000 := hh
  have hlh : low < high := hlh
  have h1 : nat es * low ≤ nat rl := h1
  have h2 : nat rl < nat es * high := h2
  have one : ∀ v ∈ vl_di x y q r i (nat es) (nat rl) low high, v.oneCell' = true := one_cons hx1 (one_cons hy.one (one_cons hq1 (one_cons hr.one (one_cons rfl (one_cons rfl (one_cons rfl (one_cons rfl (one_cons rfl (one_cons rfl (one_cons rfl (one_cons rfl one_nil)))))))))))
  by_cases hgo : 1 < high - low
  · have hm9 : (low + high) / 2 < 10000 := by omega
    have hT : ∀ b2, decide (nat es * ((low + high) / 2) ≤ nat rl) = b2 → ∀ t ∈ t_di b2, t.Valid (CX 63 (vl_di x y q r i (nat es) (nat rl) low high) [clD (digs ((low + high) / 2)), clD (digs (nat es * ((low + high) / 2)))] w2) := fun b2 hb2 =>
      forall_cons (e_sub (by omega) (pvW rfl) (pvW rfl) (rvW rfl) (by omega)) (forall_cons (e_gtr (pvW rfl) pvl (decide_eq_true (by omega))) (forall_cons (e_add (by omega) (pvW rfl) (pvW rfl) (rvW rfl) (by omega)) (forall_cons (e_quo (k := .i64) (n := 2) (pvW rfl) pvl (rvW rfl) (by decide) (by rw [IntKind.wrap_i64]; omega))
        (forall_cons (e_cv (by kernel_rfl) (by kernel_rfl) (by kernel_rfl) (pvW rfl) (rvW rfl) (by rw [IntKind.wrap_u64]; omega)) (forall_cons (e_small (by omega) (pvW rfl) (rd rfl)) (forall_cons (e_product (es := digs ((low + high) / 2)) (pdW rfl (hy.below hb (Nat.le_refl _))) (pd rfl) hes (dig_digs _) hl1 (by have := digs_len 1 ((low + high) / 2) (by omega); omega) (rd (by rw [nat_digs]; rfl)))
          (forall_cons (e_order (ds := digs (nat es * ((low + high) / 2))) (pd rfl) (pdW rfl (hr.below hb (Nat.le_refl _))) (dig_digs _) hrl (by rw [nat_digs]; exact rvW rfl)) (forall_cons (e_leq (pvW rfl) pvl (by rw [← hb2]; congr 1; exact propext cmpN_le)) forall_nil))))))))
    by_cases hc : nat es * ((low + high) / 2) ≤ nat rl
    · refine seg_x [clD (digs ((low + high) / 2)), clD (digs (nat es * ((low + high) / 2)))] [(0, 0), (1, 1), (6, 2), (7, 3), (8, 4), (9, 5), (10, 6)] [(0, 0), (1, 1), (6, 2), (7, 3), (8, 4), (9, 9), (10, 6)] (n := 30) (x := .normal) one (oks_cons (clD_ok noT _) (oks_cons (clD_ok noT _) oks_nil)) (hT true (decide_eq_true hc)) hs (by kernel_rfl) rfl rfl (fun a5 w5 hs hb5 => ?_)
      exact ⟨((low + high) / 2, high), ⟨hh, by show (low + high) / 2 < high; omega, hc, h2, ⟨hs.defers, hs.size, hs.sl⟩, hb.trans (hb5.mono hb.size)⟩, by show high - (low + high) / 2 < high - low; omega⟩
    · refine seg_x [clD (digs ((low + high) / 2)), clD (digs (nat es * ((low + high) / 2)))] [(0, 0), (1, 1), (6, 2), (7, 3), (8, 4), (9, 5), (10, 6)] [(0, 0), (1, 1), (6, 2), (7, 3), (8, 4), (9, 5), (10, 9)] (n := 30) (x := .normal) one (oks_cons (clD_ok noT _) (oks_cons (clD_ok noT _) oks_nil)) (hT false (decide_eq_false hc)) hs (by kernel_rfl) rfl rfl (fun a5 w5 hs hb5 => ?_)
      exact ⟨(low, (low + high) / 2), ⟨by show (low + high) / 2 ≤ 10000; omega, by show low < (low + high) / 2; omega, h1, Nat.lt_of_not_le hc, ⟨hs.defers, hs.size, hs.sl⟩, hb.trans (hb5.mono hb.size)⟩, by show (low + high) / 2 - low < high - low; omega⟩
  · have hT : ∀ t ∈ t_di0, t.Valid (CV 63 (vl_di x y q r i (nat es) (nat rl) low high) w2) := forall_cons (e_sub (by omega) (pvW rfl) (pvW rfl) (rvW rfl) (by omega)) (forall_cons (e_gtr (pvW rfl) pvl (decide_eq_false (by omega))) forall_nil)
    refine seg_v [(0, 0), (1, 1), (6, 2), (7, 3), (8, 4), (9, 5), (10, 6)] [(0, 0), (1, 1), (6, 2), (7, 3), (8, 4), (9, 5)] (n := 30) (x := .exit 2) one hT hs (by kernel_rfl) rfl rfl (fun a5 w5 hs hb5 => ?_)
    have hlow : nat rl / nat es = low := by
      have : high = low + 1 := by omega
      subst this
      exact Nat.div_eq_of_lt_le (by rw [Nat.mul_comm]; exact h1) (by rw [Nat.mul_comm]; exact h2)
    refine hQ a5 w5 ⟨hs.defers, hs.size, ?_⟩ (hb.trans (hb5.mono hb.size))
    rw [hlow]
    exact hs.sl

theorem ret_v2 {fn : Func} {t s : Nat} {a : Act} {w : World} {v u : Value} (hr : fn.results = #[.tmp t, .tmp s]) (hd : a.defers = []) (ht : a.tmps[t]? = some v) (hu : a.tmps[s]? = some u) {Q : Ending → World → Prop} (h : Q (.returned (.tuple #[v, u])) w) : bodyPost Tryz.prog fn Q .ret a w := by
  refine ⟨hd, .tuple #[v, u], ?_, h⟩
  rw [results_eq, hr]
  have e1 : a.tmps.getD t undef = v := by rw [Array.getD_eq_getD_getElem?, ht]; rfl
  have e2 : a.tmps.getD s undef = u := by rw [Array.getD_eq_getD_getElem?, hu]; rfl
  simp [resF, e1, e2]
abbrev vl_dc (x y q r : Value) (ds : List Nat) (i : Nat) : List Value := [x, y, q, r, ii (i : Int), ptrAt x i, ii ((ds.getD i 0 : Nat) : Int)]
/-- A digit put before the remainder. -/
theorem div_cons (x y q r : Value) (ds rl : List Nat) (i : Nat) (hi : i < ds.length) (hds : Dig ds) (a : Act) (w1 : World) (hx : Dg w1 x ds) (hy1 : y.oneCell' = true) (hq1 : q.oneCell' = true) (hr : Dg w1 r rl) (hl : rl.length < 100000000)
    (hs : St' 63 (vl_dc x y q r ds i) [(0, 0), (1, 1), (6, 2), (7, 3), (8, 4)] a) {Q : Exit → Act → World → Prop}
    (hQ : ∀ a' w' r', Dg w' r' (strip (ds.getD i 0 :: rl)) → (∀ k, r'.ownBlock = some k → w1.heap.size ≤ k) → St' 63 [x, y, q, r', ii (i : Int)] [(0, 0), (1, 1), (6, 2), (7, 3), (8, 4)] a' → Below w1.heap.size w1 w' → Q .normal a' w') : (seqL (inner (seqL (seqR lo_div)))).wp Tryz.prog Q a w1 := by
  have one : ∀ v ∈ vl_dc x y q r ds i, v.oneCell' = true := one_cons hx.one (one_cons hy1 (one_cons hq1 (one_cons hr.one (one_cons rfl (one_cons (ptrAt_one _ _) (one_cons rfl one_nil))))))
  have hT : ∀ t ∈ [(⟨.ix 31, [op 0, op 4], .val (op 5)⟩ : Ent), ⟨.ld 3, [op 5], .val (op 6)⟩], t.Valid (CV 63 (vl_dc x y q r ds i) w1) := forall_cons (e_ixW und_nat elem_nat (pvW rfl) hx (pvW rfl) hi (rvW rfl)) (forall_cons (e_ldW (pvW rfl) hx hi (rvW rfl)) forall_nil)
  show (Code.region 6 (opsOf (seqL (inner (seqL (seqR lo_div))))).toArray false).wp Tryz.prog _ _ _
  refine wp_region_lit ?_
  show wpList _ _ _ ((opsOf (seqL (inner (seqL (seqR lo_div))))).take 6 ++ (opsOf (seqL (inner (seqL (seqR lo_div))))).drop 6) _ _
  refine ops_is (CV_ok one) hT (post := itemsOf [(28, 3), (0, 0), (1, 1), (6, 2), (8, 4)] ++ [.own 27 3 1 [.cls 6 1]]) (by kernel_rfl) (hs.at rfl) (fun a2 w2 hA => ?_)
  obtain ⟨⟨s28, hsl⟩, ⟨k, vs, s27, hk, hkc, hvs⟩, _⟩ := items_sl (is := [(28, 3), (0, 0), (1, 1), (6, 2), (8, 4)]) rfl hA.items
  have hvs : vs = [ii ((ds.getD i 0 : Nat) : Int)] := by
    obtain ⟨xs, ys, rfl, ⟨f, hE, rfl⟩, hy⟩ := hvs
    rw [show ys = [] from hy]
    have hE : f 0 = ii ((ds.getD i 0 : Nat) : Int) := hE
    simp [List.range_succ, hE]
  subst hvs
  have hown : Own w1.heap.size w2 (.slice (some ⟨k, 0, none⟩) 1 1) [ds.getD i 0] := ⟨rfl, .inr ⟨k, 1, #[ii ((ds.getD i 0 : Nat) : Int)], rfl, hk, hkc, Nat.le_refl _, by decide, rfl, rfl⟩⟩
  refine wp_cat rfl rfl s27 s28 (hr.below hA.below (Nat.le_refl _)) hown hA.below.size (by simp; omega) (fun z' w3 hown' hgr => ?_)
  have hb3 : Below w1.heap.size w1 w3 := hA.below.trans ⟨hgr.os, hgr.tape, hgr.output, hgr.size, fun j hj => hgr.block j (Nat.lt_of_lt_of_le hj hA.below.size) (fun e => by have := hown.lt j e.symm; have hj : j < w1.heap.size := hj; omega)⟩
  have hsz : 29 < a2.tmps.size := by rw [hA.size]; show 29 < 63; decide
  have hs : St' 63 [x, y, q, z', ii (i : Int)] [(29, 3), (0, 0), (1, 1), (6, 2), (8, 4)] (a2.put (some 29) z') := ⟨(put_defers _ _ _).trans hA.defers, (put_size _ _ _).trans hA.size, put_self hsz, Sl.put (vl := [x, y, q, z', ii (i : Int)]) (is := [(0, 0), (1, 1), (6, 2), (8, 4)]) rfl hsl⟩
  have one' : ∀ v ∈ [x, y, q, z', ii (i : Int)], v.oneCell' = true := one_cons hx.one (one_cons hy1 (one_cons hq1 (one_cons hown'.one (one_cons rfl one_nil))))
  have hT : ∀ t ∈ [(⟨.call 123, [op 3], .val (op 5)⟩ : Ent)], t.Valid (CX 63 [x, y, q, z', ii (i : Int)] [clF w1.heap.size (strip (ds.getD i 0 :: rl))] w3) := forall_cons (e_trimF (pfW rfl hown'.dg (fun k hk => (hown'.lt k hk).1)) (rf rfl)) forall_nil
  refine ops_end (CX_ok one' (oks_cons (clF_ok noT _ _) oks_nil)) hT (pre := itemsOf [(29, 3), (0, 0), (1, 1), (6, 2), (8, 4)] ++ []) (post := itemsOf [(0, 0), (1, 1), (6, 2), (8, 4)] ++ [.val 7 (op 5)]) (by kernel_rfl) ⟨Below.refl _ _, hs.defers, hs.size, items_gen CX_get hs.sl rfl (fun _ => trivial)⟩ (fun a4 w4 hA => ?_)
  obtain ⟨q1, ⟨⟨v, q2, q3⟩, _⟩⟩ := sl_gen (vl := [x, y, q, z', ii (i : Int)]) (is := [(0, 0), (1, 1), (6, 2), (8, 4)]) CX_get rfl hA.items
  exact hQ a4 w4 v ((op_isF rfl).1 q3).1 ((op_isF rfl).1 q3).2 ⟨hA.defers, hA.size, q1.1, q1.2.1, q1.2.2.1, q2, q1.2.2.2.1, trivial⟩ (hb3.trans (hA.below.mono hb3.size))

theorem nat_strip (l : List Nat) : nat (strip l) = nat l := by
  induction l with
  | nil => rfl
  | cons d l ih =>
    rw [strip_cons]
    split
    · rename_i h
      rw [h.2] at ih
      show 0 = d + 10000 * nat l
      rw [← ih, h.1]; rfl
    · show d + 10000 * nat (strip l) = d + 10000 * nat l
      rw [ih]
abbrev vl_do (x y q r : Value) (k : Nat) : List Value := [x, y, q, r, ii (idx k), ii (idx (k - 1))]
abbrev vl_dr (x y q r : Value) (i : Nat) (low : Nat) : List Value := [x, y, q, r, ii (i : Int), ii (low : Int), ptrAt q i, ui low]
theorem divide_ok (x y : Value) (ds es : List Nat) (w : World) (hx : Dg w x ds) (hy : Dg w y es) (hds : Dig ds) (hes : Dig es) (hem : ∀ d ∈ es, d < 10000) (hl1 : ds.length < 10000000) (hl2 : es.length < 10000000) (hpos : 0 < nat es) :
    Calls Tryz.prog 100 #[x, y] w (fun e w' => ∃ v u, e = .returned (.tuple #[v, u]) ∧ Dg w' v (digs (nat ds / nat es)) ∧ Dg w' u (digs (nat ds % nat es)) ∧ Below w.heap.size w w') := by
  refine calls_v2 (nt := 63) (f := 100) Tryz.func100 (c := .seq (seqL b_div) (.seq (seqL (seqR b_div)) (.seq (seqL (seqR (seqR b_div))) (.seq (.seq (seqL (seqL (seqR (seqR (seqR b_div))))) (.block 0 (.loop lo_div))) (seqR (seqR (seqR (seqR b_div)))))))) rfl rfl rfl x y (fun a hs => ?_)
  have one2 : ∀ v ∈ [x, y], v.oneCell' = true := one_cons hx.one (one_cons hy.one one_nil)
  refine wp_seq (seg_v (T := []) [(0, 0), (1, 1)] [(0, 0), (1, 1)] (n := 30) (x := .normal) one2 forall_nil hs (by kernel_rfl) rfl rfl (fun a1 w1 hs hb1 => ?_))
  refine wp_seq ?_
  have onel : ∀ v ∈ [x, y, ii (ds.length : Int)], v.oneCell' = true := one_cons hx.one (one_cons hy.one (one_cons rfl one_nil))
  have hT : ∀ t ∈ [(⟨.blt .len [31] 3, [op 0], .val (op 2)⟩ : Ent)], t.Valid (CV 63 [x, y, ii (ds.length : Int)] w1) := forall_cons (e_len und_nat (pdW rfl (hx.below hb1 (Nat.le_refl _))) (rvW rfl)) forall_nil
  have hs : St' 63 [x, y, ii (ds.length : Int)] [(0, 0), (1, 1)] a1 := ⟨hs.defers, hs.size, hs.sl⟩
  show (Code.region 1 (opsOf (seqL (seqR b_div))).toArray false).wp Tryz.prog _ _ _
  refine make_v [(0, 0), (1, 1)] [(0, 0), (1, 1)] 2 (s := 13) (d := 14) (t := 6) (B := w.heap.size) (n := ds.length) onel hT hs 2 (by kernel_rfl) rfl rfl rfl rfl rfl rfl rfl rfl rfl rfl rfl rfl rfl rfl hb1.size (by omega) (fun q a2 w2 hq hown hs hb2 => ?_)
  have hb := hb1.trans hb2
  have hs : St' 63 [x, y, q] [(6, 2), (0, 0), (1, 1)] a2 := ⟨hs.defers, hs.size, hq, hs.sl⟩
  refine wp_seq ?_
  show (Code.region 2 [_, _].toArray false).wp Tryz.prog _ _ _
  refine empty_v [(6, 2), (0, 0), (1, 1)] (d := 15) (t := 7) hs rfl rfl rfl rfl rfl rfl rfl rfl rfl rfl (B := w.heap.size) hb.size (fun r a3 w3 hr hownr hs hb3 => ?_)
  have hown := hown.below hb3
  have hb := hb.trans (hb3.mono hb.size)
  have hrd := hownr.dg
  have onei : ∀ v ∈ [x, y, q, r, ii (ds.length : Int), ii (idx ds.length)], v.oneCell' = true := one_cons hx.one (one_cons hy.one (one_cons hown.one (one_cons hrd.one (one_cons rfl (one_cons rfl one_nil)))))
  have hs : St' 63 [x, y, q, r, ii (ds.length : Int), ii (idx ds.length)] [(0, 0), (1, 1), (6, 2), (7, 3)] a3 := ⟨hs.defers, hs.size, hs.sl.2.1, hs.sl.2.2.1, hs.sl.1, hr, trivial⟩
  have hT : ∀ t ∈ [(⟨.blt .len [31] 3, [op 0], .val (op 4)⟩ : Ent), ⟨.bin .sub 3, [op 4, vp (ii 1)], .val (op 5)⟩], t.Valid (CV 63 [x, y, q, r, ii (ds.length : Int), ii (idx ds.length)] w3) :=
    forall_cons (e_len und_nat (pdW rfl (hx.below hb (Nat.le_refl _))) (rvW rfl)) (forall_cons (e_sub (by cases hk : ds.length with | zero => rfl | succ m => show ((m + 1 : Nat) : Int) - 1 = (m : Int); omega) (pvW rfl) pvl (rvW rfl) (by cases hk : ds.length with | zero => decide | succ m => show _ ≤ (m : Int) ∧ (m : Int) ≤ _; omega)) forall_nil)
  refine wp_seq (wp_seq (seg_v [(0, 0), (1, 1), (6, 2), (7, 3)] [(0, 0), (1, 1), (6, 2), (7, 3), (8, 5)] (n := 30) (x := .normal) onei hT hs (by kernel_rfl) rfl rfl (fun a4 w4 hs hb4 => ?_)))
  have hown := hown.below hb4
  have hrd := hrd.below hb4 (Nat.le_refl _)
  have hb := hb.trans (hb4.mono hb.size)
  refine while_is (Θ := Nat) (fun k a w1 => ∃ r ql, k ≤ ds.length ∧ ql.length = ds.length ∧ (∀ d ∈ ql, d < 10000) ∧ nat (ql.drop k) = nat (ds.drop k) / nat es ∧ Dg w1 r (digs (nat (ds.drop k) % nat es)) ∧ St' 63 (vl_do x y q r k) [(0, 0), (1, 1), (6, 2), (7, 3), (8, 4)] a ∧ Own w.heap.size w1 q ql ∧ Below w.heap.size w w1) id ?_ ds.length ⟨r, List.replicate ds.length 0, Nat.le_refl _, List.length_replicate, fun d hd => by have := List.eq_of_mem_replicate hd; omega, by rw [nat_drop_end (by simp), nat_drop_end (Nat.le_refl _)]; simp, by rw [nat_drop_end (Nat.le_refl _), Nat.zero_mod, digs_zero]; exact hrd, ⟨hs.defers, hs.size, hs.sl⟩, hown, hb⟩
  rintro k a w1 ⟨r, ql, hk, hql, hqd, hnq, hr, hs, hown, hb⟩
  have one : ∀ v ∈ vl_do x y q r k, v.oneCell' = true := one_cons hx.one (one_cons hy.one (one_cons hown.one (one_cons hr.one (one_cons rfl (one_cons rfl one_nil)))))
  cases k with
  | zero =>
    have hT : ∀ t ∈ [(⟨.bin .geq 3, [op 4, vp (ii 0)], .val (vp (.bool false))⟩ : Ent)], t.Valid (CV 63 (vl_do x y q r 0) w1) := forall_cons (e_geq (pvW rfl) pvl (decide_eq_false (by decide))) forall_nil
    refine wp_seq (seg_v [(0, 0), (1, 1), (6, 2), (7, 3), (8, 4)] [(6, 2), (7, 3)] (n := 30) (x := .exit 0) one hT hs (by kernel_rfl) rfl rfl (fun a5 w5 hs hb5 => ?_))
    have hown := hown.below hb5
    have hr := hr.below hb5 (Nat.le_refl _)
    have hb := hb.trans (hb5.mono hb.size)
    have hs : St' 63 [q, r] [(6, 0), (7, 1)] a5 := ⟨hs.defers, hs.size, hs.sl⟩
    have hT : ∀ t ∈ [(⟨.call 123, [op 0], .val (op 2)⟩ : Ent)], t.Valid (CX 63 [q, r] [clD (strip ql)] w5) := forall_cons (e_trim (pdW rfl hown.dg) (rd rfl)) forall_nil
    refine seg_xd [clD (strip ql)] [(6, 0), (7, 1)] [(5, 1)] 4 2 (one_cons hown.one (one_cons hr.one one_nil)) (oks_cons (clD_ok noT _) oks_nil) hT hs rfl (n := 30) (x := .ret) (by kernel_rfl) rfl rfl (fun a6 w6 v h4 hv hs hb6 => ret_v2 rfl hs.defers h4 hs.sl.1 ⟨v, r, rfl, ?_, ?_, hb.trans (hb6.mono hb.size)⟩)
    · have h0 : nat ql = nat ds / nat es := by simpa using hnq
      rw [← h0, digs_nat hqd]
      exact hv
    · have := hr.below hb6 (Nat.le_refl _)
      simpa using this
  | succ i =>
    have hk : i < ds.length := hk
    have hT : ∀ w1, ∀ t ∈ [(⟨.bin .geq 3, [op 4, vp (ii 0)], .val (vp (.bool true))⟩ : Ent)], t.Valid (CV 63 (vl_do x y q r (i + 1)) w1) := fun w1 => forall_cons (e_geq (x := (i : Int)) (pvW rfl) pvl (decide_eq_true (by omega))) forall_nil
    refine wp_seq (seg_v [(0, 0), (1, 1), (6, 2), (7, 3), (8, 4)] [(0, 0), (1, 1), (6, 2), (7, 3), (8, 4)] (n := 30) (x := .normal) one (hT w1) hs (by kernel_rfl) rfl rfl (fun a5 w5 hs hb5 => ?_))
    have hown := hown.below hb5
    have hr := hr.below hb5 (Nat.le_refl _)
    have hb := hb.trans (hb5.mono hb.size)
    have hrlen : (digs (nat (ds.drop (i + 1)) % nat es)).length ≤ es.length := by
      refine digs_len _ _ (Nat.lt_trans (Nat.mod_lt _ hpos) (nat_bound hem))
    have hs : St' 63 (vl_dc x y q r ds i) [(0, 0), (1, 1), (6, 2), (7, 3), (8, 4)] a5 := ⟨hs.defers, hs.size, hs.sl⟩
    refine wp_seq (wp_block (wp_seq (div_cons x y q r ds _ i hk hds a5 w5 (hx.below hb (Nat.le_refl _)) hy.one hown.one hr (by omega) hs (fun a6 w6 r' hr' hfr hs hb6 => ?_))))
    have hfr : ∀ k, r'.ownBlock = some k → some k ≠ q.ownBlock := fun k hk e => by
      have h1 := hfr k hk
      have h2 := (hown.lt k e.symm).2
      omega
    have hown := hown.below hb6
    have hb := hb.trans (hb6.mono hb.size)
    -- the number that is divided now
    have hRl : ∀ d ∈ (ds.getD i 0 :: digs (nat (ds.drop (i + 1)) % nat es)), d < 10000 := by
      intro d hd
      rcases List.mem_cons.1 hd with rfl | hd
      · exact hds i
      · exact digs_lt _ d hd
    have hR : nat (strip (ds.getD i 0 :: digs (nat (ds.drop (i + 1)) % nat es))) = ds.getD i 0 + 10000 * (nat (ds.drop (i + 1)) % nat es) := by
      rw [nat_strip]
      show _ + 10000 * nat (digs _) = _
      rw [nat_digs]
    rw [← digs_nat hRl, show nat (ds.getD i 0 :: digs (nat (ds.drop (i + 1)) % nat es)) = ds.getD i 0 + 10000 * (nat (ds.drop (i + 1)) % nat es) by rw [← nat_strip]; exact hR] at hr'
    have hmod := Nat.mod_lt (nat (ds.drop (i + 1))) hpos
    have hdi := hds i
    have hdr := nat_drop ds i
    have hdm := Nat.mod_add_div (nat (ds.drop (i + 1))) (nat es)
    generalize hRR : ds.getD i 0 + 10000 * (nat (ds.drop (i + 1)) % nat es) = R at hr'
    have hRlt : R < 10000 * nat es := by omega
    have hq1 : nat (ds.drop i) / nat es = R / nat es + 10000 * (nat (ds.drop (i + 1)) / nat es) := by
      rw [hdr, ← hdm, show ds.getD i 0 + 10000 * (nat (ds.drop (i + 1)) % nat es + nat es * (nat (ds.drop (i + 1)) / nat es)) = R + nat es * (10000 * (nat (ds.drop (i + 1)) / nat es)) by rw [← hRR]; grind]
      rw [Nat.add_mul_div_left _ _ hpos, hdm]
    have hq2 : nat (ds.drop i) % nat es = R % nat es := by
      rw [hdr, ← hdm, show ds.getD i 0 + 10000 * (nat (ds.drop (i + 1)) % nat es + nat es * (nat (ds.drop (i + 1)) / nat es)) = R + nat es * (10000 * (nat (ds.drop (i + 1)) / nat es)) by rw [← hRR]; grind]
      rw [Nat.add_mul_mod_self_left]
    have hRlen : (digs R).length ≤ es.length + 1 := by
      refine digs_len _ _ (Nat.lt_of_lt_of_le hRlt ?_)
      rw [Nat.pow_succ, Nat.mul_comm]
      exact Nat.mul_le_mul_right _ (Nat.le_of_lt (nat_bound hem))
    have hlow9 : R / nat es < 10000 := Nat.div_lt_of_lt_mul (by rw [Nat.mul_comm]; exact hRlt)
    have onec : ∀ v ∈ [x, y, q, r', ii (i : Int)], v.oneCell' = true := one_cons hx.one (one_cons hy.one (one_cons hown.one (one_cons hr'.one (one_cons rfl one_nil))))
    refine wp_seq (seg_vl (T := []) [(0, 0), (1, 1), (6, 2), (7, 3), (8, 4)] [(0, 0), (1, 1), (6, 2), (7, 3), (8, 4)] [(9, ii 0), (10, ii 10000)] (n := 30) (x := .normal) onec forall_nil hs (by kernel_rfl) rfl rfl (fun a7 w7 hs hll hb7 => ?_))
    have hown := hown.below hb7
    have hr' := hr'.below hb7 (Nat.le_refl _)
    have hb := hb.trans (hb7.mono hb.size)
    have hs : St' 63 (vl_di x y q r' (i : Int) (nat es) (nat (digs R)) 0 10000) [(0, 0), (1, 1), (6, 2), (7, 3), (8, 4), (9, 5), (10, 6)] a7 := ⟨hs.defers, hs.size, hs.sl.1, hs.sl.2.1, hs.sl.2.2.1, hs.sl.2.2.2.1, hs.sl.2.2.2.2.1, hll.1, hll.2.1, trivial⟩
    refine wp_seq (div_inner x y q r' (i : Int) es (digs R) hes (dig_digs R) (by omega) hx.one hown.one a7 w7 (hy.below hb (Nat.le_refl _)) hr' (by rw [nat_digs]; exact hRlt) hs (fun a8 w8 hs hb8 => ?_))
    rw [nat_digs] at hs
    have hown := hown.below hb8
    have hr' := hr'.below hb8 (Nat.le_refl _)
    have hb := hb.trans (hb8.mono hb.size)
    generalize hLL : R / nat es = low at hs hlow9 hq1
    have onee : ∀ v ∈ vl_dr x y q r' i low, v.oneCell' = true := one_cons hx.one (one_cons hy.one (one_cons hown.one (one_cons hr'.one (one_cons rfl (one_cons rfl (one_cons (ptrAt_one _ _) (one_cons rfl one_nil)))))))
    have hs : St' 63 (vl_dr x y q r' i low) [(0, 0), (1, 1), (6, 2), (7, 3), (8, 4), (9, 5)] a8 := ⟨hs.defers, hs.size, hs.sl⟩
    have hT : ∀ t ∈ [(⟨.ix 31, [op 2, op 4], .val (op 6)⟩ : Ent)], t.Valid (CV 63 (vl_dr x y q r' i low) w8) := forall_cons (e_ixW und_nat elem_nat (pvW rfl) hown.dg (pvW rfl) (by omega) (rvW rfl)) forall_nil
    refine wp_seq ?_
    show (Code.region 13 (opsOf (seqL (seqR (seqR (seqR (inner (seqL (seqR lo_div)))))))).toArray false).wp Tryz.prog _ _ _
    refine store_v [(0, 0), (1, 1), (6, 2), (7, 3), (8, 4), (9, 5)] [(0, 0), (1, 1), (6, 2), (7, 3), (8, 4), (9, 5)] 4 (s := 52) (t := 51) (cp := 6) (cv := 5) (z := q) (ds := ql) (j := i) (d := low) onee hT hs (by kernel_rfl) rfl rfl rfl rfl rfl rfl rfl rfl hown hb.size (by omega) (fun a9 w9 hown hs hb9 hkeep => ?_)
    have hr' := hkeep r' _ hr' hfr
    have hb := hb.trans hb9
    have hdm := Nat.div_add_mod R (nat es)
    rw [hLL] at hdm
    have hT : ∀ t ∈ [(⟨.cv 3 23, [op 5], .val (op 7)⟩ : Ent), ⟨.call 87, [op 7], .val (op 8)⟩, ⟨.call 93, [op 1, op 8], .val (op 9)⟩, ⟨.call 95, [op 3, op 9], .val (op 10)⟩], t.Valid (CX 63 (vl_dr x y q r' i low) [clD (digs low), clD (digs (nat es * low)), clD (digs (R - nat es * low))] w9) :=
      forall_cons (e_cv (by kernel_rfl) (by kernel_rfl) (by kernel_rfl) (pvW rfl) (rvW rfl) (by rw [IntKind.wrap_u64]; omega)) (forall_cons (e_small (by omega) (pvW rfl) (rd rfl)) (forall_cons (e_product (es := digs low) (pdW rfl (hy.below hb (Nat.le_refl _))) (pd rfl) hes (dig_digs _) (by omega) (by have := digs_len 1 low (by omega); omega) (rd (by rw [nat_digs]; rfl)))
        (forall_cons (e_rest (ds := digs R) (es := digs (nat es * low)) (pdW rfl hr') (pd rfl) (dig_digs _) (dig_digs _) (by omega) (digs_mono (by omega)) (by rw [nat_digs, nat_digs]; omega) (rd (by rw [nat_digs, nat_digs]; rfl))) forall_nil)))
    refine seg_xd [clD (digs low), clD (digs (nat es * low)), clD (digs (R - nat es * low))] [(0, 0), (1, 1), (6, 2), (7, 3), (8, 4), (9, 5)] [(0, 0), (1, 1), (6, 2), (8, 4)] 7 10 onee (oks_cons (clD_ok noT _) (oks_cons (clD_ok noT _) (oks_cons (clD_ok noT _) oks_nil))) hT hs rfl (n := 30) (x := .normal) (by kernel_rfl) rfl rfl (fun a10 w10 r2 h7 hr2 hs hb10 => ?_)
    have hown := hown.below hb10
    have hb := hb.trans (hb10.mono hb.size)
    show (seqR (seqR lo_div)).wp Tryz.prog _ _ _
    have one2 : ∀ v ∈ vl_do x y q r2 (i + 1), v.oneCell' = true := one_cons hx.one (one_cons hy.one (one_cons hown.one (one_cons hr2.one (one_cons rfl (one_cons rfl one_nil)))))
    have hs : St' 63 (vl_do x y q r2 (i + 1)) [(0, 0), (1, 1), (6, 2), (7, 3), (8, 4)] a10 := ⟨hs.defers, hs.size, hs.sl.1, hs.sl.2.1, hs.sl.2.2.1, h7, hs.sl.2.2.2.1, trivial⟩
    have hT : ∀ t ∈ [(⟨.bin .sub 3, [op 4, vp (ii 1)], .val (op 5)⟩ : Ent)], t.Valid (CV 63 (vl_do x y q r2 (i + 1)) w10) := forall_cons (e_sub (x := (i : Int)) (u := idx i) (by cases i with | zero => rfl | succ j => show ((j + 1 : Nat) : Int) - 1 = (j : Int); omega) (pvW rfl) pvl (rvW rfl) (by cases i with | zero => decide | succ j => show _ ≤ (j : Int) ∧ (j : Int) ≤ _; omega)) forall_nil
    refine seg_v [(0, 0), (1, 1), (6, 2), (7, 3), (8, 4)] [(0, 0), (1, 1), (6, 2), (7, 3), (8, 5)] (n := 30) (x := .normal) one2 hT hs (by kernel_rfl) rfl rfl (fun a11 w11 hs hb11 => ?_)
    refine ⟨i, ⟨r2, ql.set i low, by omega, by rw [List.length_set]; exact hql, mem_set_lt hqd hlow9, ?_, ?_, ⟨hs.defers, hs.size, hs.sl⟩, hown.below hb11, hb.trans (hb11.mono hb.size)⟩, Nat.lt_succ_self i⟩
    · rw [hq1, ← hnq, nat_drop (ql.set i low) i, List.drop_set_of_lt (by omega)]
      congr 1
      simp [List.getD, hql, hk]
    · rw [hq2, show R % nat es = R - nat es * low by omega]
      exact hr2.below hb11 (Nat.le_refl _)
end Sym
end Go.Proofs.YtccabfblgjcboaaGreatDoor

/- The reference's Common. -/
namespace Go.Proofs.YtccabfblgjcboaaGreatDoor
open Go Go.RowKit Go.Proofs Lim
namespace Sym
section
variable {csz : List Nat} {numc : List Bool} {okT : List Nat} {nt : Nat} {cl : List Cl} {w0 : World} {p1 p2 : Pat} {c1 c2 : Nat} {ds es : List Nat}
theorem e_divide (h1 : PD csz numc okT nt cl w0 p1 ds) (h2 : PD csz numc okT nt cl w0 p2 es) (hds : Dig ds) (hes : Dig es) (hem : ∀ d ∈ es, d < 10000) (hl1 : ds.length < 10000000) (hl2 : es.length < 10000000) (hpos : 0 < nat es) (h3 : cl[c1]? = some (clD (digs (nat ds / nat es)))) (h4 : cl[c2]? = some (clD (digs (nat ds % nat es)))) :
    V csz numc okT nt cl w0 (.call 100) [p1, p2] (.tup [op c1, op c2]) := by
  refine ⟨enters_of Tryz.func100 (by kernel_rfl) rfl, fun w vs hb hvs => ?_⟩
  obtain ⟨v1, _, rfl, h5, v2, _, rfl, h6, rfl⟩ := hvs
  refine (divide_ok v1 v2 ds es w (h1 _ _ hb h5) (h2 _ _ hb h6) hds hes hem hl1 hl2 hpos).mono ?_
  rintro e w' ⟨v, u, rfl, hv, hu, hb'⟩
  exact ⟨_, rfl, ⟨[v, u], ⟨_, _, rfl, (op_isD h3).2 hv, _, _, rfl, (op_isD h4).2 hu, rfl⟩, rfl⟩, hb'⟩
end
noncomputable def b_gcd : Code := bodyOf Tryz.f124
noncomputable def l_gcd : Code := inner (inner (seqL (seqR b_gcd)))
theorem digs_pos_len {n : Nat} : 0 < (digs n).length ↔ n ≠ 0 := by
  constructor
  · rintro h rfl
    rw [digs_zero] at h; simp at h
  · intro h
    rw [digs_pos h]; simp
theorem common_ok (x y : Value) (m n : Nat) (w : World) (hx : Dg w x (digs m)) (hy : Dg w y (digs n)) (hl1 : (digs m).length < 10000000) (hl2 : (digs n).length < 10000000) : Calls Tryz.prog 124 #[x, y] w (fun e w' => ∃ v, e = .returned v ∧ Dg w' v (digs (Nat.gcd m n)) ∧ Below w.heap.size w w') := by
  refine calls_v2 (nt := 19) (f := 124) Tryz.func124 (c := .seq (seqL b_gcd) (.seq (.block 0 (.loop l_gcd)) (seqR (seqR b_gcd)))) rfl rfl rfl x y (fun a hs => ?_)
  refine wp_seq (seg_v (T := []) [(0, 0), (1, 1)] [(0, 0), (1, 1)] (n := 30) (x := .normal) (one_cons hx.one (one_cons hy.one one_nil)) forall_nil hs (by kernel_rfl) rfl rfl (fun a1 w1 hs hb1 => ?_))
  refine wp_seq (while_is (Θ := Nat × Nat) (fun θ a w1 => ∃ x y, Dg w1 x (digs θ.1) ∧ Dg w1 y (digs θ.2) ∧ (digs θ.1).length < 10000000 ∧ (digs θ.2).length < 10000000 ∧ Nat.gcd θ.1 θ.2 = Nat.gcd m n ∧ St' 19 [x, y] [(0, 0), (1, 1)] a ∧ Below w.heap.size w w1) (fun θ => θ.2) ?_ (m, n) ⟨x, y, hx.below hb1 (Nat.le_refl _), hy.below hb1 (Nat.le_refl _), hl1, hl2, rfl, hs, hb1⟩)
  rintro ⟨m', n'⟩ a w2 ⟨x, y, hx, hy, hl1, hl2, hg, hs, hb⟩
  have hg : Nat.gcd m' n' = Nat.gcd m n := hg
  have hs : St' 19 [x, y, ii ((digs n').length : Int)] [(0, 0), (1, 1)] a := ⟨hs.defers, hs.size, hs.sl⟩
  have one : ∀ v ∈ [x, y, ii ((digs n').length : Int)], v.oneCell' = true := one_cons hx.one (one_cons hy.one (one_cons rfl one_nil))
  by_cases h0 : n' = 0
  · subst h0
    have hT : ∀ t ∈ [(⟨.blt .len [31] 3, [op 1], .val (op 2)⟩ : Ent), ⟨.bin .gtr 3, [op 2, vp (ii 0)], .val (vp (.bool false))⟩], t.Valid (CV 19 [x, y, ii ((digs 0).length : Int)] w2) := forall_cons (e_len und_nat (pdW rfl hy) (rvW rfl)) (forall_cons (e_gtr (pvW rfl) pvl (decide_eq_false (by rw [digs_zero]; decide))) forall_nil)
    refine wp_seq (seg_v [(0, 0), (1, 1)] [(0, 0)] (n := 30) (x := .exit 0) one hT hs (by kernel_rfl) rfl rfl (fun a5 w5 hs hb5 => ?_))
    refine seg_v (T := []) [(0, 0)] [(4, 0)] (n := 30) (x := .ret) one forall_nil hs (by kernel_rfl) rfl rfl (fun a6 w6 hs hb6 => ret_v rfl hs.defers hs.sl.1 ⟨x, rfl, ?_, (hb.trans (hb5.mono hb.size)).trans (hb6.mono (Nat.le_trans hb.size hb5.size))⟩)
    rw [← hg, Nat.gcd_zero_right]
    exact (hx.below hb5 (Nat.le_refl _)).below hb6 (Nat.le_refl _)
  · have hpos : 0 < n' := Nat.pos_of_ne_zero h0
    have hlen := digs_pos_len.2 h0
    have hT : ∀ t ∈ [(⟨.blt .len [31] 3, [op 1], .val (op 2)⟩ : Ent), ⟨.bin .gtr 3, [op 2, vp (ii 0)], .val (vp (.bool true))⟩, ⟨.call 100, [op 0, op 1], .tup [op 3, op 4]⟩], t.Valid (CX 19 [x, y, ii ((digs n').length : Int)] [clD (digs (m' / n')), clD (digs (m' % n'))] w2) :=
      forall_cons (e_len und_nat (pdW rfl hy) (rvW rfl)) (forall_cons (e_gtr (pvW rfl) pvl (decide_eq_true (by omega))) (forall_cons (e_divide (ds := digs m') (es := digs n') (pdW rfl hx) (pdW rfl hy) (dig_digs _) (dig_digs _) (digs_lt _) hl1 hl2 (by rw [nat_digs]; exact hpos) (by rw [nat_digs, nat_digs]; rfl) (by rw [nat_digs, nat_digs]; rfl)) forall_nil))
    refine seg_xd [clD (digs (m' / n')), clD (digs (m' % n'))] [(0, 0), (1, 1)] [(0, 1)] 1 4 one (oks_cons (clD_ok noT _) (oks_cons (clD_ok noT _) oks_nil)) hT hs rfl (n := 30) (x := .normal) (by kernel_rfl) rfl rfl (fun a5 w5 r h1 hr hs hb5 => ?_)
    have hml := Nat.mod_lt m' hpos
    refine ⟨(n', m' % n'), ⟨y, r, hy.below hb5 (Nat.le_refl _), hr, hl2, Nat.lt_of_le_of_lt (digs_mono (Nat.le_of_lt hml)) hl2, ?_, ⟨hs.defers, hs.size, hs.sl.1, h1, trivial⟩, hb.trans (hb5.mono hb.size)⟩, hml⟩
    rw [← hg]
    show Nat.gcd n' (m' % n') = Nat.gcd m' n'
    rw [Nat.gcd_comm m' n', Nat.gcd_rec n' m', Nat.gcd_comm]
section
variable {csz : List Nat} {numc : List Bool} {okT : List Nat} {nt : Nat} {cl : List Cl} {w0 : World} {p1 p2 : Pat} {res : RPat} {m n : Nat}
theorem e_common (h1 : PD csz numc okT nt cl w0 p1 (digs m)) (h2 : PD csz numc okT nt cl w0 p2 (digs n)) (hl1 : (digs m).length < 10000000) (hl2 : (digs n).length < 10000000) (h3 : RD csz numc okT nt cl w0 res (digs (Nat.gcd m n))) : V csz numc okT nt cl w0 (.call 124) [p1, p2] res := by
  refine ⟨enters_of Tryz.func124 (by kernel_rfl) rfl, fun w vs hb hvs => ?_⟩
  obtain ⟨v1, _, rfl, h4, v2, _, rfl, h5, rfl⟩ := hvs
  refine (common_ok v1 v2 m n w (h1 _ _ hb h4) (h2 _ _ hb h5) hl1 hl2).mono ?_
  rintro e w' ⟨v, rfl, hv, hb'⟩
  exact ⟨_, rfl, h3 w' v hv, hb'⟩
end
end Sym
end Go.Proofs.YtccabfblgjcboaaGreatDoor

/- The reference's Make. -/
namespace Go.Proofs.YtccabfblgjcboaaGreatDoor
open Go Go.RowKit Go.Proofs Lim
namespace Sym
/-- A number of the reference by its parts. -/
def RatP (w : World) (v : Value) (neg : Bool) (m k : Nat) : Prop := ∃ a b, v = .agg #[.bool neg, a, b] ∧ Dg w a (digs m) ∧ Dg w b (digs k)
theorem ratT : ∀ t ∈ [33], t ≠ 3 := fun t h => by
  have : t = 33 := by simpa using h
  subst this
  decide
abbrev cl_make (m k : Nat) : List Cl := [clD (digs m), clD (digs k), clD (digs (Nat.gcd m k)), clD (digs (m / Nat.gcd m k)), clD (digs (m % Nat.gcd m k)), clD (digs (k / Nat.gcd m k)), clD (digs (k % Nat.gcd m k)), clV (ii ((digs (m / Nat.gcd m k)).length : Int))]
noncomputable abbrev C_make (m k : Nat) (w : World) : Ctx := mkC [1, 1, 1, 1, 1, 1, 1, 1] [false, false, false, false, false, false, false, true] [33] 36 (cl_make m k) w
def t_make (b : Bool) : List Ent := [⟨.call 124, [op 0, op 1], .val (op 2)⟩, ⟨.call 100, [op 0, op 2], .tup [op 3, op 4]⟩, ⟨.call 100, [op 1, op 2], .tup [op 5, op 6]⟩, ⟨.blt .len [31] 3, [op 3], .val (op 7)⟩, ⟨.bin .gtr 3, [op 7, vp (ii 0)], .val (vp (.bool b))⟩]
theorem make_ok (neg : Bool) (x y : Value) (m k : Nat) (w : World) (hx : Dg w x (digs m)) (hy : Dg w y (digs k)) (hk : 0 < k) (hl1 : (digs m).length < 10000000) (hl2 : (digs k).length < 10000000) : Calls Tryz.prog 82 #[.bool neg, x, y] w (fun e w' => ∃ v, e = .returned v ∧ RatP w' v (neg && decide (m ≠ 0)) (m / Nat.gcd m k) (k / Nat.gcd m k) ∧ Below w.heap.size w w') := by
  have hC : (C_make m k w).Ok := mkC_ok (oks_cons (clD_ok ratT _) (oks_cons (clD_ok ratT _) (oks_cons (clD_ok ratT _) (oks_cons (clD_ok ratT _) (oks_cons (clD_ok ratT _) (oks_cons (clD_ok ratT _) (oks_cons (clD_ok ratT _) (oks_cons (clVi_ok _) oks_nil)))))))) rfl rfl
  have hg : 0 < Nat.gcd m k := Nat.gcd_pos_of_pos_right m hk
  have hgl : (digs (Nat.gcd m k)).length < 10000000 := Nat.lt_of_le_of_lt (digs_mono (Nat.le_of_dvd hk (Nat.gcd_dvd_right m k))) hl2
  have hm0 : (0 < (digs (m / Nat.gcd m k)).length) ↔ m ≠ 0 := by
    rw [digs_pos_len]
    constructor
    · rintro h rfl
      rw [Nat.zero_div] at h
      exact h rfl
    · intro h h'
      have := Nat.div_eq_zero_iff.1 h'
      have := Nat.le_of_dvd (Nat.pos_of_ne_zero h) (Nat.gcd_dvd_left m k)
      omega
  have hT : ∀ b, decide (m ≠ 0) = b → ∀ t ∈ t_make b, t.Valid (C_make m k w) := fun b hb =>
    forall_cons (e_common (pd rfl) (pd rfl) hl1 hl2 (rd rfl)) (forall_cons (e_divide (ds := digs m) (es := digs (Nat.gcd m k)) (pd rfl) (pd rfl) (dig_digs _) (dig_digs _) (digs_lt _) hl1 hgl (by rw [nat_digs]; exact hg) (by rw [nat_digs, nat_digs]; rfl) (by rw [nat_digs, nat_digs]; rfl))
      (forall_cons (e_divide (ds := digs k) (es := digs (Nat.gcd m k)) (pd rfl) (pd rfl) (dig_digs _) (dig_digs _) (digs_lt _) hl2 hgl (by rw [nat_digs]; exact hg) (by rw [nat_digs, nat_digs]; rfl) (by rw [nat_digs, nat_digs]; rfl))
        (forall_cons (e_len und_nat (pd rfl) (rv rfl)) (forall_cons (e_gtr (pv rfl) pvl (by rw [← hb]; congr 1; apply propext; rw [← hm0]; constructor <;> intro h <;> omega)) forall_nil))))
  have hv : ∀ neg, PatsAre (C_make m k w) w [vp (.bool neg), op 0, op 1] [.bool neg, x, y] := fun neg => ⟨_, _, rfl, vp_is.2 rfl, _, _, rfl, (op_isD rfl).2 hx, _, _, rfl, (op_isD rfl).2 hy, rfl⟩
  have fin : ∀ b w' v, (Pat.agg [.lit (.bool b), .cls 3 1, .cls 5 1]).is (C_make m k w) w' v → RatP w' v b (m / Nat.gcd m k) (k / Nat.gcd m k) := by
    rintro b w' v ⟨vs, ⟨xs, ys, rfl, rfl, xs2, ys2, rfl, ⟨f, hE, rfl⟩, xs3, ys3, rfl, ⟨g, hE', rfl⟩, h5⟩, rfl⟩
    rw [show ys3 = [] from h5]
    exact ⟨f 0, g 0, by simp [List.range_succ], hE, hE'⟩
  cases neg with
  | false =>
    refine (run_mk hC (hT _ rfl) 82 Tryz.f82 [vp (.bool false), op 0, op 1] (.val (.agg [.lit (.bool false), .cls 3 1, .cls 5 1])) 60 Tryz.func82 rfl rfl rfl (by kernel_rfl) _ (hv false)).mono ?_
    rintro e w' ⟨v, rfl, hx, hb⟩
    exact ⟨v, rfl, fin _ _ _ hx, hb⟩
  | true =>
    by_cases h0 : m = 0
    · refine (run_mk hC (hT false (decide_eq_false (by simpa using h0))) 82 Tryz.f82 [vp (.bool true), op 0, op 1] (.val (.agg [.lit (.bool false), .cls 3 1, .cls 5 1])) 60 Tryz.func82 rfl rfl rfl (by kernel_rfl) _ (hv true)).mono ?_
      rintro e w' ⟨v, rfl, hx, hb⟩
      refine ⟨v, rfl, ?_, hb⟩
      rw [show (true && decide (m ≠ 0)) = false by simp [h0]]
      exact fin _ _ _ hx
    · refine (run_mk hC (hT true (decide_eq_true h0)) 82 Tryz.f82 [vp (.bool true), op 0, op 1] (.val (.agg [.lit (.bool true), .cls 3 1, .cls 5 1])) 60 Tryz.func82 rfl rfl rfl (by kernel_rfl) _ (hv true)).mono ?_
      rintro e w' ⟨v, rfl, hx, hb⟩
      refine ⟨v, rfl, ?_, hb⟩
      rw [show (true && decide (m ≠ 0)) = true by simp [h0]]
      exact fin _ _ _ hx
end Sym
end Go.Proofs.YtccabfblgjcboaaGreatDoor

/- The reference's Mul: the pattern for its functions of numbers. A number is three classes: the sign, the digits above, the digits below. -/
namespace Go.Proofs.YtccabfblgjcboaaGreatDoor
open Go Go.RowKit Go.Proofs Lim
namespace Sym
section
variable {csz : List Nat} {numc : List Bool} {okT : List Nat} {nt : Nat} {cl : List Cl} {w0 : World} {p1 p2 p3 : Pat} {res : RPat} {c1 c2 c3 m k : Nat} {neg s t b : Bool}
/-- A pattern of a number; a result that is one. -/
abbrev rp (c1 c2 c3 : Nat) : Pat := .agg [.cls c1 1, .cls c2 1, .cls c3 1]
theorem rp_is {w : World} {v : Value} (h1 : cl[c1]? = some (clV (.bool neg))) (h2 : cl[c2]? = some (clD (digs m))) (h3 : cl[c3]? = some (clD (digs k))) : (rp c1 c2 c3).is (mkC csz numc okT nt cl w0) w v ↔ RatP w v neg m k := by
  constructor
  · rintro ⟨vs, ⟨xs, ys, rfl, ⟨e, hE0, rfl⟩, xs2, ys2, rfl, ⟨f, hE, rfl⟩, xs3, ys3, rfl, ⟨g, hE', rfl⟩, h5⟩, rfl⟩
    rw [show ys3 = [] from h5]
    simp only [mkC, h1] at hE0
    simp only [mkC, h2] at hE
    simp only [mkC, h3] at hE'
    have hE0 : e 0 = .bool neg := hE0
    exact ⟨f 0, g 0, by simp [List.range_succ, hE0], hE, hE'⟩
  · rintro ⟨a, b, rfl, ha, hb⟩
    refine ⟨[.bool neg, a, b], ⟨[.bool neg], [a, b], rfl, ⟨fun _ => .bool neg, ?_, rfl⟩, [a], [b], rfl, ⟨fun _ => a, ?_, rfl⟩, [b], [], rfl, ⟨fun _ => b, ?_, rfl⟩, rfl⟩, rfl⟩
    · simp only [mkC, h1]; rfl
    · simp only [mkC, h2]; exact ha
    · simp only [mkC, h3]; exact hb
theorem e_neqb (h1 : PV csz numc okT nt cl w0 p1 (.bool s)) (h2 : PV csz numc okT nt cl w0 p2 (.bool t)) (h3 : RV csz numc okT nt cl w0 res (.bool (s != t))) : V csz numc okT nt cl w0 (.bin .neq 4) [p1, p2] res := by
  intro w ρ oo xs ho hb hvs
  obtain ⟨a, b, u, hop, rfl⟩ := hd_bin ho
  obtain ⟨v1, _, e1, h4, v2, _, e2, h5, e3⟩ := hvs
  obtain rfl := h1 _ _ h4
  obtain rfl := h2 _ _ h5
  subst e2
  simp only [List.map_cons, List.map_nil, List.cons.injEq] at e1
  obtain ⟨ea, eb, _⟩ := e1
  refine ⟨_, w, ?_, h3 w, Below.refl _ _⟩
  show (execOp ρ oo).run Tryz.prog w = _
  have hg : (eqGuard .neq 4 a b (.bool s) (.bool t)).run Tryz.prog w = .ok () w := rfl
  have hr : (Go.binOp .neq 4 (.bool s) (.bool t)).run Tryz.prog w = .ok (.bool (s != t)) w := by
    cases s <;> cases t <;> exact ev_run (by kernel_rfl) w
  simp only [execOp, hop, ea, eb, Sem.run_bind, hg, hr, Result.andThen_ok]
  rfl
theorem e_make (h1 : PV csz numc okT nt cl w0 p1 (.bool neg)) (h2 : PD csz numc okT nt cl w0 p2 (digs m)) (h3 : PD csz numc okT nt cl w0 p3 (digs k)) (hk : 0 < k) (hl1 : (digs m).length < 10000000) (hl2 : (digs k).length < 10000000)
    (g1 : cl[c1]? = some (clV (.bool (neg && decide (m ≠ 0))))) (g2 : cl[c2]? = some (clD (digs (m / Nat.gcd m k)))) (g3 : cl[c3]? = some (clD (digs (k / Nat.gcd m k)))) : V csz numc okT nt cl w0 (.call 82) [p1, p2, p3] (.val (rp c1 c2 c3)) := by
  refine ⟨enters_of Tryz.func82 (by kernel_rfl) rfl, fun w vs hb hvs => ?_⟩
  obtain ⟨v1, _, rfl, h4, v2, _, rfl, h5, v3, _, rfl, h6, rfl⟩ := hvs
  obtain rfl := h1 _ _ h4
  refine (make_ok neg v2 v3 m k w (h2 _ _ hb h5) (h3 _ _ hb h6) hk hl1 hl2).mono ?_
  rintro e w' ⟨v, rfl, hv, hb'⟩
  exact ⟨_, rfl, (rp_is g1 g2 g3).2 hv, hb'⟩
end
abbrev cl_mul (s t : Bool) (a b c d : Nat) : List Cl := [clV (.bool s), clD (digs a), clD (digs b), clV (.bool t), clD (digs c), clD (digs d), clV (.bool (s != t)), clD (digs (a * c)), clD (digs (b * d)), clV (.bool ((s != t) && decide (a * c ≠ 0))), clD (digs (a * c / Nat.gcd (a * c) (b * d))), clD (digs (b * d / Nat.gcd (a * c) (b * d)))]
noncomputable abbrev C_mul (s t : Bool) (a b c d : Nat) (w : World) : Ctx := mkC [1, 1, 1, 1, 1, 1, 1, 1, 1, 1, 1, 1] [true, false, false, true, false, false, true, false, false, true, false, false] [33] 21 (cl_mul s t a b c d) w
theorem clVb_ok {okT : List Nat} {B : Nat} (b : Bool) : (clV (.bool b)).Ok okT B := clV_ok rfl
def t_mul : List Ent := [⟨.bin .neq 4, [op 0, op 3], .val (op 6)⟩, ⟨.call 93, [op 1, op 4], .val (op 7)⟩, ⟨.call 93, [op 2, op 5], .val (op 8)⟩, ⟨.call 82, [op 6, op 7, op 8], .val (rp 9 10 11)⟩]
theorem mul_ok (s t : Bool) (x y : Value) (a b c d : Nat) (w : World) (hx : RatP w x s a b) (hy : RatP w y t c d) (hb : 0 < b) (hd : 0 < d) (h1 : (digs a).length < 1000000) (h2 : (digs b).length < 1000000) (h3 : (digs c).length < 1000000) (h4 : (digs d).length < 1000000) (h5 : (digs (a * c)).length < 10000000) (h6 : (digs (b * d)).length < 10000000) :
    Calls Tryz.prog 30 #[x, y] w (fun e w' => ∃ v, e = .returned v ∧ RatP w' v ((s != t) && decide (a * c ≠ 0)) (a * c / Nat.gcd (a * c) (b * d)) (b * d / Nat.gcd (a * c) (b * d)) ∧ Below w.heap.size w w') := by
  have hC : (C_mul s t a b c d w).Ok := mkC_ok (oks_cons (clVb_ok _) (oks_cons (clD_ok ratT _) (oks_cons (clD_ok ratT _) (oks_cons (clVb_ok _) (oks_cons (clD_ok ratT _) (oks_cons (clD_ok ratT _) (oks_cons (clVb_ok _) (oks_cons (clD_ok ratT _) (oks_cons (clD_ok ratT _) (oks_cons (clVb_ok _) (oks_cons (clD_ok ratT _) (oks_cons (clD_ok ratT _) oks_nil)))))))))))) rfl rfl
  have hT : ∀ t' ∈ t_mul, t'.Valid (C_mul s t a b c d w) :=
    forall_cons (e_neqb (pv rfl) (pv rfl) (rv rfl)) (forall_cons (e_product (ds := digs a) (es := digs c) (pd rfl) (pd rfl) (dig_digs _) (dig_digs _) (by omega) (by omega) (rd (by rw [nat_digs, nat_digs]; rfl))) (forall_cons (e_product (ds := digs b) (es := digs d) (pd rfl) (pd rfl) (dig_digs _) (dig_digs _) (by omega) (by omega) (rd (by rw [nat_digs, nat_digs]; rfl)))
      (forall_cons (e_make (m := a * c) (k := b * d) (pv rfl) (pd rfl) (pd rfl) (Nat.mul_pos hb hd) h5 h6 rfl rfl rfl) forall_nil)))
  refine (run_mk hC hT 30 Tryz.f30 [rp 0 1 2, rp 3 4 5] (.val (rp 9 10 11)) 60 Tryz.func30 rfl rfl rfl (by kernel_rfl) [x, y] ⟨_, _, rfl, (rp_is rfl rfl rfl).2 hx, _, _, rfl, (rp_is rfl rfl rfl).2 hy, rfl⟩).mono ?_
  rintro e w' ⟨v, rfl, hv, hb'⟩
  exact ⟨v, rfl, (rp_is rfl rfl rfl).1 hv, hb'⟩
end Sym
end Go.Proofs.YtccabfblgjcboaaGreatDoor

/- The reference's Add. -/
namespace Go.Proofs.YtccabfblgjcboaaGreatDoor
open Go Go.RowKit Go.Proofs Lim
namespace Sym
section
variable {csz : List Nat} {numc : List Bool} {okT : List Nat} {nt : Nat} {cl : List Cl} {w0 : World} {p1 p2 p3 : Pat} {res : RPat} {ds es : List Nat} {s t b : Bool}
theorem e_sum (h1 : PD csz numc okT nt cl w0 p1 ds) (h2 : PD csz numc okT nt cl w0 p2 es) (hds : Dig ds) (hes : Dig es) (hl1 : ds.length < 100000000) (hl2 : es.length < 100000000) (h3 : RD csz numc okT nt cl w0 res (digs (nat ds + nat es))) : V csz numc okT nt cl w0 (.call 94) [p1, p2] res := by
  refine ⟨enters_of Tryz.func94 (by kernel_rfl) rfl, fun w vs hb hvs => ?_⟩
  obtain ⟨v1, _, rfl, h4, v2, _, rfl, h5, rfl⟩ := hvs
  refine (sum_ok v1 v2 ds es w (h1 _ _ hb h4) (h2 _ _ hb h5) hds hes hl1 hl2).mono ?_
  rintro e w' ⟨v, rfl, hv, hb'⟩
  exact ⟨_, rfl, h3 w' v hv, hb'⟩
theorem e_eqb (h1 : PV csz numc okT nt cl w0 p1 (.bool s)) (h2 : PV csz numc okT nt cl w0 p2 (.bool t)) (hb : (s == t) = b) : V csz numc okT nt cl w0 (.bin .eql 4) [p1, p2] (.val (vp (.bool b))) := by
  intro w ρ oo xs ho hbw hvs
  obtain ⟨a, c, u, hop, rfl⟩ := hd_bin ho
  obtain ⟨v1, _, e1, h4, v2, _, e2, h5, e3⟩ := hvs
  obtain rfl := h1 _ _ h4
  obtain rfl := h2 _ _ h5
  subst e2
  simp only [List.map_cons, List.map_nil, List.cons.injEq] at e1
  obtain ⟨ea, eb, _⟩ := e1
  subst hb
  refine ⟨_, w, ?_, vp_r _ _ _, Below.refl _ _⟩
  show (execOp ρ oo).run Tryz.prog w = _
  have hg : (eqGuard .eql 4 a c (.bool s) (.bool t)).run Tryz.prog w = .ok () w := rfl
  have hr : (Go.binOp .eql 4 (.bool s) (.bool t)).run Tryz.prog w = .ok (.bool (s == t)) w := by
    cases s <;> cases t <;> exact ev_run (by kernel_rfl) w
  simp only [execOp, hop, ea, eb, Sem.run_bind, hg, hr, Result.andThen_ok]
  rfl
end
abbrev cl_add (s t : Bool) (a b c d : Nat) (sg : Bool) (S : Nat) : List Cl := [clV (.bool s), clD (digs a), clD (digs b), clV (.bool t), clD (digs c), clD (digs d), clD (digs (a * d)), clD (digs (c * b)), clD (digs (b * d)), clD (digs S), clV (.bool (sg && decide (S ≠ 0))), clD (digs (S / Nat.gcd S (b * d))), clD (digs (b * d / Nat.gcd S (b * d))), clV (ii (cmpN (a * d) (c * b)))]
noncomputable abbrev C_add (s t : Bool) (a b c d : Nat) (sg : Bool) (S : Nat) (w : World) : Ctx := mkC [1, 1, 1, 1, 1, 1, 1, 1, 1, 1, 1, 1, 1, 1] [true, false, false, true, false, false, false, false, false, false, true, false, false, true] [33] 53 (cl_add s t a b c d sg S) w
def t_add0 (e : Bool) : List Ent := [⟨.call 93, [op 1, op 5], .val (op 6)⟩, ⟨.call 93, [op 4, op 2], .val (op 7)⟩, ⟨.call 93, [op 2, op 5], .val (op 8)⟩, ⟨.bin .eql 4, [op 0, op 3], .val (vp (.bool e))⟩, ⟨.call 89, [op 6, op 7], .val (op 13)⟩]
def t_add1 : List Ent := [⟨.call 94, [op 6, op 7], .val (op 9)⟩, ⟨.call 82, [op 0, op 9, op 8], .val (rp 10 11 12)⟩]
def t_add2 : List Ent := [⟨.bin .geq 3, [op 13, vp (ii 0)], .val (vp (.bool true))⟩, ⟨.call 95, [op 6, op 7], .val (op 9)⟩, ⟨.call 82, [op 0, op 9, op 8], .val (rp 10 11 12)⟩]
def t_add3 : List Ent := [⟨.bin .geq 3, [op 13, vp (ii 0)], .val (vp (.bool false))⟩, ⟨.call 95, [op 7, op 6], .val (op 9)⟩, ⟨.call 82, [op 3, op 9, op 8], .val (rp 10 11 12)⟩]
/-- The sign and the size of a sum over one denominator. -/
def addS (s t : Bool) (m n : Nat) : Bool × Nat := if s = t then (s, m + n) else if n ≤ m then (s, m - n) else (t, n - m)
theorem cmpN_ge {a b : Nat} : cmpN a b ≥ 0 ↔ b ≤ a := by unfold cmpN; split <;> (try split) <;> omega
theorem add_ok (s t : Bool) (x y : Value) (a b c d : Nat) (w : World) (hx : RatP w x s a b) (hy : RatP w y t c d) (hb : 0 < b) (hd : 0 < d) (h1 : (digs a).length < 1000000) (h2 : (digs b).length < 1000000) (h3 : (digs c).length < 1000000) (h4 : (digs d).length < 1000000) (h5 : (digs (a * d)).length < 10000000) (h6 : (digs (b * d)).length < 10000000) (h7 : (digs (c * b)).length < 10000000) (h8 : (digs (a * d + c * b)).length < 10000000)
    {sg : Bool} {S : Nat} (hS : addS s t (a * d) (c * b) = (sg, S)) :
    Calls Tryz.prog 26 #[x, y] w (fun e w' => ∃ v, e = .returned v ∧ RatP w' v (sg && decide (S ≠ 0)) (S / Nat.gcd S (b * d)) (b * d / Nat.gcd S (b * d)) ∧ Below w.heap.size w w') := by
  have hC : (C_add s t a b c d sg S w).Ok := mkC_ok (oks_cons (clVb_ok _) (oks_cons (clD_ok ratT _) (oks_cons (clD_ok ratT _) (oks_cons (clVb_ok _) (oks_cons (clD_ok ratT _) (oks_cons (clD_ok ratT _) (oks_cons (clD_ok ratT _) (oks_cons (clD_ok ratT _) (oks_cons (clD_ok ratT _) (oks_cons (clD_ok ratT _) (oks_cons (clVb_ok _) (oks_cons (clD_ok ratT _) (oks_cons (clD_ok ratT _) (oks_cons (clVi_ok _) oks_nil)))))))))))))) rfl rfl
  have hT0 : ∀ e, (s == t) = e → ∀ t' ∈ t_add0 e, t'.Valid (C_add s t a b c d sg S w) := fun e he =>
    forall_cons (e_product (ds := digs a) (es := digs d) (pd rfl) (pd rfl) (dig_digs _) (dig_digs _) (by omega) (by omega) (rd (by rw [nat_digs, nat_digs]; rfl))) (forall_cons (e_product (ds := digs c) (es := digs b) (pd rfl) (pd rfl) (dig_digs _) (dig_digs _) (by omega) (by omega) (rd (by rw [nat_digs, nat_digs]; rfl))) (forall_cons (e_product (ds := digs b) (es := digs d) (pd rfl) (pd rfl) (dig_digs _) (dig_digs _) (by omega) (by omega) (rd (by rw [nat_digs, nat_digs]; rfl)))
      (forall_cons (e_eqb (pv rfl) (pv rfl) he) (forall_cons (e_order (ds := digs (a * d)) (es := digs (c * b)) (pd rfl) (pd rfl) (dig_digs _) (dig_digs _) (by rw [nat_digs, nat_digs]; exact rv rfl)) forall_nil))))
  have app : ∀ {l1 l2 : List Ent}, (∀ t' ∈ l1, t'.Valid (C_add s t a b c d sg S w)) → (∀ t' ∈ l2, t'.Valid (C_add s t a b c d sg S w)) → ∀ t' ∈ l1 ++ l2, t'.Valid (C_add s t a b c d sg S w) := fun q1 q2 t' ht => (List.mem_append.1 ht).elim (q1 t') (q2 t')
  have hv : PatsAre (C_add s t a b c d sg S w) w [rp 0 1 2, rp 3 4 5] [x, y] := ⟨_, _, rfl, (rp_is rfl rfl rfl).2 hx, _, _, rfl, (rp_is rfl rfl rfl).2 hy, rfl⟩
  have hbd : 0 < b * d := Nat.mul_pos hb hd
  have hSl : S ≤ a * d + c * b := by
    unfold addS at hS
    split at hS
    · injection hS with _ h; omega
    · split at hS <;> (injection hS with _ h; omega)
  have hSl : (digs S).length < 10000000 := Nat.lt_of_le_of_lt (digs_mono hSl) h8
  have fin : ∀ e w', (∃ v, e = Ending.returned v ∧ RPat.is (C_add s t a b c d sg S w) w' (.val (rp 10 11 12)) v ∧ Below w.heap.size w w') → ∃ v, e = .returned v ∧ RatP w' v (sg && decide (S ≠ 0)) (S / Nat.gcd S (b * d)) (b * d / Nat.gcd S (b * d)) ∧ Below w.heap.size w w' := by
    rintro e w' ⟨v, rfl, hv, hb'⟩
    exact ⟨v, rfl, (rp_is rfl rfl rfl).1 hv, hb'⟩
  unfold addS at hS
  by_cases hst : s = t
  · rw [if_pos hst] at hS
    injection hS with g1 g2
    subst g1 g2
    have hT : ∀ t' ∈ t_add1, t'.Valid (C_add s t a b c d s (a * d + c * b) w) := forall_cons (e_sum (ds := digs (a * d)) (es := digs (c * b)) (pd rfl) (pd rfl) (dig_digs _) (dig_digs _) (by omega) (by omega) (rd (by rw [nat_digs, nat_digs]; rfl))) (forall_cons (e_make (m := a * d + c * b) (k := b * d) (pv rfl) (pd rfl) (pd rfl) hbd hSl h6 rfl rfl rfl) forall_nil)
    exact (run_mk hC (app (hT0 true (by simp [hst])) hT) 26 Tryz.f26 [rp 0 1 2, rp 3 4 5] (.val (rp 10 11 12)) 90 Tryz.func26 rfl rfl rfl (by kernel_rfl) [x, y] hv).mono fin
  · rw [if_neg hst] at hS
    by_cases hle : c * b ≤ a * d
    · rw [if_pos hle] at hS
      injection hS with g1 g2
      subst g1 g2
      have hT : ∀ t' ∈ t_add2, t'.Valid (C_add s t a b c d s (a * d - c * b) w) := forall_cons (e_geq (pv rfl) pvl (decide_eq_true (cmpN_ge.2 hle))) (forall_cons (e_rest (ds := digs (a * d)) (es := digs (c * b)) (pd rfl) (pd rfl) (dig_digs _) (dig_digs _) (by omega) (digs_mono hle) (by rw [nat_digs, nat_digs]; exact hle) (rd (by rw [nat_digs, nat_digs]; rfl))) (forall_cons (e_make (m := a * d - c * b) (k := b * d) (pv rfl) (pd rfl) (pd rfl) hbd hSl h6 rfl rfl rfl) forall_nil))
      exact (run_mk hC (app (hT0 false (by simp [hst])) hT) 26 Tryz.f26 [rp 0 1 2, rp 3 4 5] (.val (rp 10 11 12)) 90 Tryz.func26 rfl rfl rfl (by kernel_rfl) [x, y] hv).mono fin
    · rw [if_neg hle] at hS
      injection hS with g1 g2
      subst g1 g2
      have hT : ∀ t' ∈ t_add3, t'.Valid (C_add s t a b c d t (c * b - a * d) w) := forall_cons (e_geq (pv rfl) pvl (decide_eq_false (fun h => hle (cmpN_ge.1 h)))) (forall_cons (e_rest (ds := digs (c * b)) (es := digs (a * d)) (pd rfl) (pd rfl) (dig_digs _) (dig_digs _) (by omega) (digs_mono (by omega)) (by rw [nat_digs, nat_digs]; omega) (rd (by rw [nat_digs, nat_digs]; rfl))) (forall_cons (e_make (m := c * b - a * d) (k := b * d) (pv rfl) (pd rfl) (pd rfl) hbd hSl h6 rfl rfl rfl) forall_nil))
      exact (run_mk hC (app (hT0 false (by simp [hst])) hT) 26 Tryz.f26 [rp 0 1 2, rp 3 4 5] (.val (rp 10 11 12)) 90 Tryz.func26 rfl rfl rfl (by kernel_rfl) [x, y] hv).mono fin
end Sym
end Go.Proofs.YtccabfblgjcboaaGreatDoor

/- The reference's Div, Neg, Abs, Sub. -/
namespace Go.Proofs.YtccabfblgjcboaaGreatDoor
open Go Go.RowKit Go.Proofs Lim
namespace Sym
def t_div : List Ent := [⟨.bin .neq 4, [op 0, op 3], .val (op 6)⟩, ⟨.call 93, [op 1, op 5], .val (op 7)⟩, ⟨.call 93, [op 2, op 4], .val (op 8)⟩, ⟨.call 82, [op 6, op 7, op 8], .val (rp 9 10 11)⟩]
abbrev cl_div (s t : Bool) (a b c d : Nat) : List Cl := [clV (.bool s), clD (digs a), clD (digs b), clV (.bool t), clD (digs c), clD (digs d), clV (.bool (s != t)), clD (digs (a * d)), clD (digs (b * c)), clV (.bool ((s != t) && decide (a * d ≠ 0))), clD (digs (a * d / Nat.gcd (a * d) (b * c))), clD (digs (b * c / Nat.gcd (a * d) (b * c)))]
noncomputable abbrev C_div (s t : Bool) (a b c d : Nat) (w : World) : Ctx := mkC [1, 1, 1, 1, 1, 1, 1, 1, 1, 1, 1, 1] [true, false, false, true, false, false, true, false, false, true, false, false] [33] 21 (cl_div s t a b c d) w
theorem div_ok (s t : Bool) (x y : Value) (a b c d : Nat) (w : World) (hx : RatP w x s a b) (hy : RatP w y t c d) (hb : 0 < b) (hc : 0 < c) (h1 : (digs a).length < 1000000) (h2 : (digs b).length < 1000000) (h3 : (digs c).length < 1000000) (h4 : (digs d).length < 1000000) (h5 : (digs (a * d)).length < 10000000) (h6 : (digs (b * c)).length < 10000000) :
    Calls Tryz.prog 36 #[x, y] w (fun e w' => ∃ v, e = .returned v ∧ RatP w' v ((s != t) && decide (a * d ≠ 0)) (a * d / Nat.gcd (a * d) (b * c)) (b * c / Nat.gcd (a * d) (b * c)) ∧ Below w.heap.size w w') := by
  have hC : (C_div s t a b c d w).Ok := mkC_ok (oks_cons (clVb_ok _) (oks_cons (clD_ok ratT _) (oks_cons (clD_ok ratT _) (oks_cons (clVb_ok _) (oks_cons (clD_ok ratT _) (oks_cons (clD_ok ratT _) (oks_cons (clVb_ok _) (oks_cons (clD_ok ratT _) (oks_cons (clD_ok ratT _) (oks_cons (clVb_ok _) (oks_cons (clD_ok ratT _) (oks_cons (clD_ok ratT _) oks_nil)))))))))))) rfl rfl
  have hT : ∀ t' ∈ t_div, t'.Valid (C_div s t a b c d w) :=
    forall_cons (e_neqb (pv rfl) (pv rfl) (rv rfl)) (forall_cons (e_product (ds := digs a) (es := digs d) (pd rfl) (pd rfl) (dig_digs _) (dig_digs _) (by omega) (by omega) (rd (by rw [nat_digs, nat_digs]; rfl))) (forall_cons (e_product (ds := digs b) (es := digs c) (pd rfl) (pd rfl) (dig_digs _) (dig_digs _) (by omega) (by omega) (rd (by rw [nat_digs, nat_digs]; rfl)))
      (forall_cons (e_make (m := a * d) (k := b * c) (pv rfl) (pd rfl) (pd rfl) (Nat.mul_pos hb hc) h5 h6 rfl rfl rfl) forall_nil)))
  refine (run_mk hC hT 36 Tryz.f36 [rp 0 1 2, rp 3 4 5] (.val (rp 9 10 11)) 60 Tryz.func36 rfl rfl rfl (by kernel_rfl) [x, y] ⟨_, _, rfl, (rp_is rfl rfl rfl).2 hx, _, _, rfl, (rp_is rfl rfl rfl).2 hy, rfl⟩).mono ?_
  rintro e w' ⟨v, rfl, hv, hb'⟩
  exact ⟨v, rfl, (rp_is rfl rfl rfl).1 hv, hb'⟩

abbrev cl_neg (a b : Nat) : List Cl := [clD (digs a), clD (digs b), clV (ii ((digs a).length : Int))]
noncomputable abbrev C_neg (nt a b : Nat) (w : World) : Ctx := mkC [1, 1, 1] [false, false, true] [33] nt (cl_neg a b) w
theorem neg_C (nt a b : Nat) (w : World) : (C_neg nt a b w).Ok := mkC_ok (oks_cons (clD_ok ratT _) (oks_cons (clD_ok ratT _) (oks_cons (clVi_ok _) oks_nil))) rfl rfl
def t_neg (b : Bool) : List Ent := [⟨.blt .len [31] 3, [op 0], .val (op 2)⟩, ⟨.bin .gtr 3, [op 2, vp (ii 0)], .val (vp (.bool b))⟩]
/-- A number whose sign is known. -/
theorem rl_is {nt a b : Nat} {w0 w : World} {v : Value} {s : Bool} : (Pat.agg [.lit (.bool s), .cls 0 1, .cls 1 1]).is (C_neg nt a b w0) w v ↔ RatP w v s a b := by
  constructor
  · rintro ⟨vs, ⟨xs, ys, rfl, rfl, xs2, ys2, rfl, ⟨f, hE, rfl⟩, xs3, ys3, rfl, ⟨g, hE', rfl⟩, h5⟩, rfl⟩
    rw [show ys3 = [] from h5]
    exact ⟨f 0, g 0, by simp [List.range_succ], hE, hE'⟩
  · rintro ⟨x, y, rfl, ha, hb⟩
    exact ⟨[.bool s, x, y], ⟨[.bool s], [x, y], rfl, rfl, [x], [y], rfl, ⟨fun _ => x, ha, rfl⟩, [y], [], rfl, ⟨fun _ => y, hb, rfl⟩, rfl⟩, rfl⟩
theorem neg_ok (s : Bool) (x : Value) (a b : Nat) (w : World) (hx : RatP w x s a b) : Calls Tryz.prog 38 #[x] w (fun e w' => ∃ v, e = .returned v ∧ RatP w' v (!s && decide (a ≠ 0)) a b ∧ Below w.heap.size w w') := by
  have hT : ∀ e, decide (a ≠ 0) = e → ∀ t ∈ t_neg e, t.Valid (C_neg 17 a b w) := fun e he => forall_cons (e_len und_nat (pd rfl) (rv rfl)) (forall_cons (e_gtr (pv rfl) pvl (by rw [← he]; congr 1; apply propext; rw [← digs_pos_len]; constructor <;> intro h <;> omega)) forall_nil)
  have hv : ∀ s, RatP w x s a b → PatsAre (C_neg 17 a b w) w [.agg [.lit (.bool s), .cls 0 1, .cls 1 1]] [x] := fun s h => ⟨_, _, rfl, rl_is.2 h, rfl⟩
  cases s with
  | true =>
    refine (run_mk (neg_C 17 a b w) (hT _ rfl) 38 Tryz.f38 [.agg [.lit (.bool true), .cls 0 1, .cls 1 1]] (.val (.agg [.lit (.bool false), .cls 0 1, .cls 1 1])) 60 Tryz.func38 rfl rfl rfl (by kernel_rfl) [x] (hv _ hx)).mono ?_
    rintro e w' ⟨v, rfl, hv, hb'⟩
    exact ⟨v, rfl, rl_is.1 hv, hb'⟩
  | false =>
    by_cases h0 : a = 0
    · refine (run_mk (neg_C 17 a b w) (hT false (by simp [h0])) 38 Tryz.f38 [.agg [.lit (.bool false), .cls 0 1, .cls 1 1]] (.val (.agg [.lit (.bool false), .cls 0 1, .cls 1 1])) 60 Tryz.func38 rfl rfl rfl (by kernel_rfl) [x] (hv _ hx)).mono ?_
      rintro e w' ⟨v, rfl, hv, hb'⟩
      refine ⟨v, rfl, ?_, hb'⟩
      rw [show (!false && decide (a ≠ 0)) = false by simp [h0]]
      exact rl_is.1 hv
    · refine (run_mk (neg_C 17 a b w) (hT true (by simp [h0])) 38 Tryz.f38 [.agg [.lit (.bool false), .cls 0 1, .cls 1 1]] (.val (.agg [.lit (.bool true), .cls 0 1, .cls 1 1])) 60 Tryz.func38 rfl rfl rfl (by kernel_rfl) [x] (hv _ hx)).mono ?_
      rintro e w' ⟨v, rfl, hv, hb'⟩
      refine ⟨v, rfl, ?_, hb'⟩
      rw [show (!false && decide (a ≠ 0)) = true by simp [h0]]
      exact rl_is.1 hv
end Sym
end Go.Proofs.YtccabfblgjcboaaGreatDoor

/- The reference's numbers as rational numbers: sums, products, quotients, opposite numbers. -/

namespace Go.Proofs.YtccabfblgjcboaaGreatDoor
open Go Go.RowKit Go.Proofs Lim
namespace Sym

/-- A number of the reference. -/
def RQ (w : World) (v : Value) (r : Rat) : Prop := RatP w v (decide (r.num < 0)) r.num.natAbs r.den
theorem RatP.below {w w' : World} {v : Value} {s : Bool} {m k B : Nat} (h : RatP w v s m k) (hb : Below B w w') (hB : w.heap.size ≤ B) : RatP w' v s m k := by
  obtain ⟨a, b, e, h1, h2⟩ := h
  exact ⟨a, b, e, h1.below hb hB, h2.below hb hB⟩
theorem RQ.below {w w' : World} {v : Value} {r : Rat} {B : Nat} (h : RQ w v r) (hb : Below B w w') (hB : w.heap.size ≤ B) : RQ w' v r := RatP.below h hb hB
theorem mk_parts (neg : Bool) {m k : Nat} (hk : 0 < k) : (mkRat (sgn neg m) k).num.natAbs = m / Nat.gcd m k ∧ (mkRat (sgn neg m) k).den = k / Nat.gcd m k ∧ decide ((mkRat (sgn neg m) k).num < 0) = (neg && decide (m ≠ 0)) := by
  have hk0 : k ≠ 0 := by omega
  rw [← Rat.normalize_eq_mkRat hk0, Rat.normalize_eq]
  have hg : (sgn neg m).natAbs.gcd k = Nat.gcd m k := by rw [sgn_abs]
  have hgp : 0 < Nat.gcd m k := Nat.gcd_pos_of_pos_right m hk
  obtain ⟨c, hc⟩ := Nat.gcd_dvd_left m k
  have hcd : m / Nat.gcd m k = c := by
    conv => lhs; lhs; rw [hc]
    exact Nat.mul_div_cancel_left c hgp
  have hz : sgn neg m / ((Nat.gcd m k : Nat) : Int) = sgn neg c := by
    have : sgn neg m = ((Nat.gcd m k : Nat) : Int) * sgn neg c := by
      unfold sgn
      split
      · rw [Int.mul_neg, ← Int.natCast_mul, ← hc]
      · rw [← Int.natCast_mul, ← hc]
    rw [this, Int.mul_ediv_cancel_left _ (by omega)]
  have hm0 : m = 0 ↔ c = 0 := by
    constructor
    · intro h
      have : Nat.gcd m k * c = 0 := by rw [← hc]; exact h
      rcases Nat.mul_eq_zero.1 this with h | h
      · omega
      · exact h
    · intro h
      rw [hc, h, Nat.mul_zero]
  simp only [hg, hz, sgn_abs, hcd, sgn_neg]
  refine ⟨trivial, trivial, ?_⟩
  have : decide (m ≠ 0) = !decide (c = 0) := by
    by_cases h : c = 0
    · simp [h, hm0.2 h]
    · have h' : m ≠ 0 := fun e => h (hm0.1 e)
      simp [h, h']
  rw [this]
theorem RatP.rq {w : World} {v : Value} {neg : Bool} {m k : Nat} {r : Rat} (hk : 0 < k) (h : RatP w v (neg && decide (m ≠ 0)) (m / Nat.gcd m k) (k / Nat.gcd m k)) (hr : r = mkRat (sgn neg m) k) : RQ w v r := by
  obtain ⟨h1, h2, h3⟩ := mk_parts neg (m := m) hk
  subst hr
  show RatP w v _ _ _
  rw [h1, h2, h3]
  exact h
def RNew (w : World) (r : Rat) (e : Ending) (w' : World) : Prop := ∃ v, e = .returned v ∧ RQ w' v r ∧ Below w.heap.size w w'

theorem B_le5 : B ≤ 10000 ^ 5 := by decide
theorem digs_siz {n k : Nat} (h : n < B ^ k) : (digs n).length ≤ 5 * k := by
  refine digs_len _ _ (Nat.lt_of_lt_of_le h ?_)
  rw [Nat.pow_mul]
  exact Nat.pow_le_pow_left B_le5 k
theorem pow_mul_lt {a b k j : Nat} (h1 : a < B ^ k) (h2 : b < B ^ j) : a * b < B ^ (k + j) := by
  rw [Nat.pow_add]
  exact Nat.mul_lt_mul_of_lt_of_lt h1 h2
theorem pow_add_lt {a b k : Nat} (h1 : a < B ^ k) (h2 : b < B ^ k) : a + b < B ^ (k + 1) := by
  rw [Nat.pow_succ]
  have : B ^ k * 2 ≤ B ^ k * B := Nat.mul_le_mul_left _ (by decide)
  omega
theorem sgn_mul (a b : Bool) (x y : Nat) : sgn (a != b) (x * y) = sgn a x * sgn b y := by
  unfold sgn
  cases a <;> cases b <;> simp [Int.natCast_mul, Int.neg_mul, Int.mul_neg]

theorem rmul_q (x y : Value) (r s : Rat) (k : Nat) (w : World) (hx : RQ w x r) (hy : RQ w y s) (z1 : Siz r k) (z2 : Siz s k) (hk : k ≤ 100000) : Calls Tryz.prog 30 #[x, y] w (RNew w (r * s)) := by
  have l1 := digs_siz z1.1
  have l2 := digs_siz z1.2
  have l3 := digs_siz z2.1
  have l4 := digs_siz z2.2
  have l5 := digs_siz (pow_mul_lt z1.1 z2.1)
  have l6 := digs_siz (pow_mul_lt z1.2 z2.2)
  have hd := Nat.mul_pos r.den_pos s.den_pos
  refine (mul_ok _ _ x y _ _ _ _ w hx hy r.den_pos s.den_pos (by omega) (by omega) (by omega) (by omega) (by omega) (by omega)).mono ?_
  rintro e w' ⟨v, rfl, hv, hb⟩
  refine ⟨v, rfl, RatP.rq hd hv ?_, hb⟩
  rw [sgn_mul, sgn_self, sgn_self, Rat.mul_def']
theorem div_field (rn rd sn sd N A : Rat) (hs : sn ≠ 0) (hd : sd ≠ 0) (hd' : rd ≠ 0) (hA : A = sn ∨ A = -sn) (h : N * A = rn * sd * sn) : rn / rd / (sn / sd) = N / (rd * A) := by
  have hq : sn / sd ≠ 0 := by grind
  have hn : rd * A ≠ 0 := by rcases hA with rfl | rfl <;> grind
  rcases hA with rfl | rfl
  · have : N = rn * sd := by grind
    grind
  · have : N = -(rn * sd) := by grind
    grind
theorem div_mk (r s : Rat) (h0 : s.num ≠ 0) : r / s = mkRat (sgn (decide (r.num < 0) != decide (s.num < 0)) (r.num.natAbs * s.den)) (r.den * s.num.natAbs) := by
  have h1 : sgn (decide (r.num < 0) != decide (s.num < 0)) (r.num.natAbs * s.den) * (s.num.natAbs : Int) = r.num * s.den * s.num := by
    have e1 : r.num * s.den * s.num = (r.num * s.num) * s.den := by rw [Int.mul_assoc, Int.mul_comm (s.den : Int), ← Int.mul_assoc]
    rw [e1]
    have h2 := sgn_mul (decide (r.num < 0)) (decide (s.num < 0)) (r.num.natAbs * s.den) s.num.natAbs
    rw [sgn_self] at h2
    have h3 : sgn (decide (r.num < 0) != decide (s.num < 0)) (r.num.natAbs * s.den * s.num.natAbs) = sgn (decide (r.num < 0) != decide (s.num < 0)) (r.num.natAbs * s.den) * (s.num.natAbs : Int) := by
      unfold sgn
      split <;> simp [Int.natCast_mul, Int.neg_mul]
    rw [← h3, h2]
    have h4 : sgn (decide (r.num < 0)) (r.num.natAbs * s.den) = r.num * s.den := by
      have : sgn (decide (r.num < 0)) (r.num.natAbs * s.den) = sgn (decide (r.num < 0)) r.num.natAbs * (s.den : Int) := by
        unfold sgn
        split <;> simp [Int.natCast_mul, Int.neg_mul]
      rw [this, sgn_self]
    rw [h4, Int.mul_assoc, Int.mul_comm (s.den : Int), ← Int.mul_assoc]
  have hs : (s.num : Rat) ≠ 0 := by
    intro h
    exact h0 (by exact_mod_cast h)
  have hd : ((s.den : Nat) : Rat) ≠ 0 := by
    intro h
    exact s.den_nz (by exact_mod_cast h)
  have hd' : ((r.den : Nat) : Rat) ≠ 0 := by
    intro h
    exact r.den_nz (by exact_mod_cast h)
  have hn : ((s.num.natAbs : Nat) : Rat) ≠ 0 := by
    intro h
    have : s.num.natAbs = 0 := by exact_mod_cast h
    omega
  have er : (r.num : Rat) / ((r.den : Nat) : Rat) = r := by rw [← Rat.mkRat_eq_div, Rat.mkRat_self]
  have es : (s.num : Rat) / ((s.den : Nat) : Rat) = s := by rw [← Rat.mkRat_eq_div, Rat.mkRat_self]
  rw [Rat.mkRat_eq_div]
  generalize sgn (decide (r.num < 0) != decide (s.num < 0)) (r.num.natAbs * s.den) = N at *
  have h1' : (N : Rat) * ((s.num.natAbs : Nat) : Rat) = (r.num : Rat) * ((s.den : Nat) : Rat) * (s.num : Rat) := by exact_mod_cast h1
  have e2 : (((r.den * s.num.natAbs : Nat)) : Rat) = ((r.den : Nat) : Rat) * ((s.num.natAbs : Nat) : Rat) := by simp
  rw [e2]
  have hA : ((s.num.natAbs : Nat) : Rat) = (s.num : Rat) ∨ ((s.num.natAbs : Nat) : Rat) = -(s.num : Rat) := by
    rcases Int.natAbs_eq s.num with h | h
    · left
      have h : ((s.num : Int) : Rat) = (((s.num.natAbs : Nat) : Int) : Rat) := by rw [← h]
      rw [h]; rfl
    · right
      have h : ((s.num : Int) : Rat) = ((-((s.num.natAbs : Nat) : Int) : Int) : Rat) := by rw [← h]
      rw [h]; simp; rfl
  have := div_field _ _ _ _ (N : Rat) _ hs hd hd' hA h1'
  rw [er, es] at this
  exact this
end Sym
end Go.Proofs.YtccabfblgjcboaaGreatDoor

/- The reference's numbers as a class; their entries; lists of one digit. -/
namespace Go.Proofs.YtccabfblgjcboaaGreatDoor
open Go Go.RowKit Go.Proofs Lim
namespace Sym

theorem radd_q (x y : Value) (r s : Rat) (k : Nat) (w : World) (hx : RQ w x r) (hy : RQ w y s) (z1 : Siz r k) (z2 : Siz s k) (hk : k ≤ 100000) : Calls Tryz.prog 26 #[x, y] w (RNew w (r + s)) := by
  have l1 := digs_siz z1.1
  have l2 := digs_siz z1.2
  have l3 := digs_siz z2.1
  have l4 := digs_siz z2.2
  have l5 := digs_siz (pow_mul_lt z1.1 z2.2)
  have l6 := digs_siz (pow_mul_lt z1.2 z2.2)
  have l7 := digs_siz (pow_mul_lt z2.1 z1.2)
  have l8 := digs_siz (pow_add_lt (pow_mul_lt z1.1 z2.2) (pow_mul_lt z2.1 z1.2))
  have hd := Nat.mul_pos r.den_pos s.den_pos
  refine (add_ok _ _ x y _ _ _ _ w hx hy r.den_pos s.den_pos (by omega) (by omega) (by omega) (by omega) (by omega) (by omega) (by omega) (by omega) (S := (addS (decide (r.num < 0)) (decide (s.num < 0)) (r.num.natAbs * s.den) (s.num.natAbs * r.den)).2) (sg := (addS (decide (r.num < 0)) (decide (s.num < 0)) (r.num.natAbs * s.den) (s.num.natAbs * r.den)).1) rfl).mono ?_
  rintro e w' ⟨v, rfl, hv, hb⟩
  refine ⟨v, rfl, RatP.rq hd hv ?_, hb⟩
  have key : ∀ (a b : Bool) (x y : Nat), sgn (addS a b x y).1 (addS a b x y).2 = sgn a x + sgn b y := by
    intro a b x y
    unfold addS sgn
    cases a <;> cases b <;> simp <;> (try split) <;> (try simp) <;> omega
  have sm : ∀ (a : Bool) (x y : Nat), sgn a (x * y) = sgn a x * (y : Int) := by
    intro a x y
    unfold sgn
    split <;> simp [Int.natCast_mul, Int.neg_mul]
  rw [key, sm, sm, sgn_self, sgn_self, Rat.add_def']
theorem rdiv_q (x y : Value) (r s : Rat) (k : Nat) (w : World) (hx : RQ w x r) (hy : RQ w y s) (h0 : s.num ≠ 0) (z1 : Siz r k) (z2 : Siz s k) (hk : k ≤ 100000) : Calls Tryz.prog 36 #[x, y] w (RNew w (r / s)) := by
  have l1 := digs_siz z1.1
  have l2 := digs_siz z1.2
  have l3 := digs_siz z2.1
  have l4 := digs_siz z2.2
  have l5 := digs_siz (pow_mul_lt z1.1 z2.2)
  have l6 := digs_siz (pow_mul_lt z1.2 z2.1)
  have hc : 0 < s.num.natAbs := by omega
  refine (div_ok _ _ x y _ _ _ _ w hx hy r.den_pos hc (by omega) (by omega) (by omega) (by omega) (by omega) (by omega)).mono ?_
  rintro e w' ⟨v, rfl, hv, hb⟩
  exact ⟨v, rfl, RatP.rq (Nat.mul_pos r.den_pos hc) hv (div_mk r s h0), hb⟩
theorem rneg_q (x : Value) (r : Rat) (w : World) (hx : RQ w x r) : Calls Tryz.prog 38 #[x] w (RNew w (-r)) := by
  refine (neg_ok _ x _ _ w hx).mono ?_
  rintro e w' ⟨v, rfl, hv, hb⟩
  refine ⟨v, rfl, ?_, hb⟩
  show RatP w' v _ _ _
  rw [Rat.neg_num, Rat.neg_den, Int.natAbs_neg]
  have : decide (-r.num < 0) = (!decide (r.num < 0) && decide (r.num.natAbs ≠ 0)) := by
    by_cases h1 : r.num < 0
    · simp [h1]; omega
    · by_cases h2 : r.num = 0
      · simp [h2]
      · have : 0 < r.num := by omega
        simp [h1, h2, this]
  rw [this]
  exact hv

/-- A number r of the reference, of at most k limbs (of 64 bits). -/
def clR (r : Rat) (k : Nat) : Cl := ⟨3, true, fun w f => RQ w (.agg #[f 0, f 1, f 2]) r ∧ Siz r k⟩
theorem RatP.cells {w : World} {f : Nat → Value} {s : Bool} {m k : Nat} (h : RatP w (.agg #[f 0, f 1, f 2]) s m k) : f 0 = .bool s ∧ Dg w (f 1) (digs m) ∧ Dg w (f 2) (digs k) := by
  obtain ⟨a, b, e, h1, h2⟩ := h
  injection e with e
  have e0 : f 0 = .bool s := by have := congrArg (fun x => x[0]?) e; simpa using this
  have e1 : f 1 = a := by have := congrArg (fun x => x[1]?) e; simpa using this
  have e2 : f 2 = b := by have := congrArg (fun x => x[2]?) e; simpa using this
  exact ⟨e0, e1 ▸ h1, e2 ▸ h2⟩
theorem clR_ok {okT : List Nat} {B : Nat} (ht : ∀ t ∈ okT, t ≠ 3) (r : Rat) (k : Nat) : (clR r k).Ok okT B := by
  refine ⟨fun w w' f hb h => ⟨h.1.below hb (Nat.le_refl _), h.2⟩, fun w w' R f cs t _ ho hm _ hb h => ⟨?_, h.2⟩, ?_, ?_⟩
  · obtain ⟨e0, e1, e2⟩ := RatP.cells h.1
    exact ⟨f 1, f 2, by rw [e0], Dg.only ho (ht t hm) e1 hb, Dg.only ho (ht t hm) e2 hb⟩
  · intro w f _ h
    obtain ⟨e0, _, _⟩ := RatP.cells h.1
    rw [e0]; rfl
  · intro w f j h hj
    obtain ⟨e0, e1, e2⟩ := RatP.cells h.1
    have hj : j < 3 := hj
    match j, hj with
    | 0, _ => rw [e0]; rfl
    | 1, _ => exact e1.one
    | 2, _ => exact e2.one
def rq (c : Nat) : Pat := .agg [.cls c 3]
/-- Sizes that fit. -/
def fitr (n k : Nat) : Bool := Nat.ble n k && Nat.ble k 100000
theorem fitr_le {n k : Nat} (h : fitr n k = true) : n ≤ k ∧ k ≤ 100000 := by
  simp only [fitr, Bool.and_eq_true] at h
  exact ⟨Nat.le_of_ble_eq_true h.1, Nat.le_of_ble_eq_true h.2⟩
section
variable {csz : List Nat} {numc : List Bool} {okT : List Nat} {nt : Nat} {cl : List Cl} {w0 : World} {w : World} {v : Value} {p1 p2 p3 p4 : Pat} {res : RPat} {c d c1 c2 c3 c4 c5 c6 : Nat} {r s t r1 r2 r3 r4 : Rat} {k k1 k2 k3 k4 k5 k6 : Nat}
theorem rq_is (h : cl[c]? = some (clR r k)) : (rq c).is (mkC csz numc okT nt cl w0) w v ↔ RQ w v r ∧ Siz r k := by
  constructor
  · rintro ⟨vs, ⟨xs, ys, rfl, ⟨f, hE, rfl⟩, hy⟩, rfl⟩
    rw [show ys = [] from hy]
    simp only [mkC, h] at hE
    exact hE
  · rintro ⟨h1, h2⟩
    obtain ⟨a, b, rfl, g1, g2⟩ := h1
    refine ⟨[.bool (decide (r.num < 0)), a, b], ⟨_, [], (List.append_nil _).symm, ⟨fun j => [Value.bool (decide (r.num < 0)), a, b].getD j undef, ?_, rfl⟩, rfl⟩, rfl⟩
    simp only [mkC, h]
    exact ⟨⟨a, b, rfl, g1, g2⟩, h2⟩
def PR (csz : List Nat) (numc : List Bool) (okT : List Nat) (nt : Nat) (cl : List Cl) (w0 : World) (p : Pat) (r : Rat) (k : Nat) : Prop := ∀ w v, p.is (mkC csz numc okT nt cl w0) w v → RQ w v r ∧ Siz r k
theorem pr (h : cl[c]? = some (clR r k)) : PR csz numc okT nt cl w0 (rq c) r k := fun _ _ h1 => (rq_is h).1 h1
theorem ent_rr {f : Nat} (hE : Enters Tryz.prog f) (h1 : PR csz numc okT nt cl w0 p1 r k1) (h2 : cl[c2]? = some (clR t k2)) (hz : Siz r k1 → Siz t k2)
    (hc : ∀ W v, RQ W v r → Siz r k1 → Calls Tryz.prog f #[v] W (RNew W t)) : V csz numc okT nt cl w0 (.call f) [p1] (.val (rq c2)) := by
  refine ⟨hE, fun w vs hb hvs => ?_⟩
  obtain ⟨v1, _, rfl, h4, rfl⟩ := hvs
  have h4 := h1 _ _ h4
  refine (hc w v1 h4.1 h4.2).mono ?_
  rintro e w' ⟨v, rfl, hv, hb'⟩
  exact ⟨v, rfl, (rq_is h2).2 ⟨hv, hz h4.2⟩, hb'⟩
theorem ent_rrr {f : Nat} (hE : Enters Tryz.prog f) (h1 : PR csz numc okT nt cl w0 p1 r k1) (h2 : PR csz numc okT nt cl w0 p2 s k2) (h3 : cl[c3]? = some (clR t k3)) (hz : Siz r k1 → Siz s k2 → Siz t k3)
    (hc : ∀ W v1 v2, RQ W v1 r → Siz r k1 → RQ W v2 s → Siz s k2 → Calls Tryz.prog f #[v1, v2] W (RNew W t)) : V csz numc okT nt cl w0 (.call f) [p1, p2] (.val (rq c3)) := by
  refine ⟨hE, fun w vs hb hvs => ?_⟩
  obtain ⟨v1, _, rfl, h4, v2, _, rfl, h5, rfl⟩ := hvs
  have h4 := h1 _ _ h4
  have h5 := h2 _ _ h5
  refine (hc w v1 v2 h4.1 h4.2 h5.1 h5.2).mono ?_
  rintro e w' ⟨v, rfl, hv, hb'⟩
  exact ⟨v, rfl, (rq_is h3).2 ⟨hv, hz h4.2 h5.2⟩, hb'⟩
theorem ent_rv {f : Nat} {x : Value} (hE : Enters Tryz.prog f) (h1 : PR csz numc okT nt cl w0 p1 r k1)
    (hc : ∀ W v, RQ W v r → Siz r k1 → Calls Tryz.prog f #[v] W (Val W x)) : V csz numc okT nt cl w0 (.call f) [p1] (.val (vp x)) := by
  refine ⟨hE, fun w vs hb hvs => ?_⟩
  obtain ⟨v1, _, rfl, h4, rfl⟩ := hvs
  have h4 := h1 _ _ h4
  refine (hc w v1 h4.1 h4.2).mono ?_
  rintro e w' ⟨rfl, hb'⟩
  exact ⟨_, rfl, vp_r _ _ _, hb'⟩
theorem ent_rrv {f : Nat} {x : Value} (hE : Enters Tryz.prog f) (h1 : PR csz numc okT nt cl w0 p1 r k1) (h2 : PR csz numc okT nt cl w0 p2 s k2)
    (hc : ∀ W v1 v2, RQ W v1 r → Siz r k1 → RQ W v2 s → Siz s k2 → Calls Tryz.prog f #[v1, v2] W (Val W x)) : V csz numc okT nt cl w0 (.call f) [p1, p2] (.val (vp x)) := by
  refine ⟨hE, fun w vs hb hvs => ?_⟩
  obtain ⟨v1, _, rfl, h4, v2, _, rfl, h5, rfl⟩ := hvs
  have h4 := h1 _ _ h4
  have h5 := h2 _ _ h5
  refine (hc w v1 v2 h4.1 h4.2 h5.1 h5.2).mono ?_
  rintro e w' ⟨rfl, hb'⟩
  exact ⟨_, rfl, vp_r _ _ _, hb'⟩
theorem e_radd (h1 : PR csz numc okT nt cl w0 p1 r k1) (h2 : PR csz numc okT nt cl w0 p2 s k2) (h3 : cl[c3]? = some (clR (r + s) k3)) (hk : fitr (k1 + k2 + 1) k3 = true) : V csz numc okT nt cl w0 (.call 26) [p1, p2] (.val (rq c3)) := by
  have hk := fitr_le hk
  exact ent_rrr (enters_of Tryz.func26 (by kernel_rfl) rfl) h1 h2 h3 (fun z1 z2 => (z1.add z2).le (by omega)) (fun W v1 v2 q1 z1 q2 z2 => radd_q v1 v2 r s k3 W q1 q2 (z1.le (by omega)) (z2.le (by omega)) (by omega))
theorem e_rmul (h1 : PR csz numc okT nt cl w0 p1 r k1) (h2 : PR csz numc okT nt cl w0 p2 s k2) (h3 : cl[c3]? = some (clR (r * s) k3)) (hk : fitr (k1 + k2) k3 = true) : V csz numc okT nt cl w0 (.call 30) [p1, p2] (.val (rq c3)) := by
  have hk := fitr_le hk
  exact ent_rrr (enters_of Tryz.func30 (by kernel_rfl) rfl) h1 h2 h3 (fun z1 z2 => (z1.mul z2).le (by omega)) (fun W v1 v2 q1 z1 q2 z2 => rmul_q v1 v2 r s k3 W q1 q2 (z1.le (by omega)) (z2.le (by omega)) (by omega))
theorem e_rdiv (h0 : s.num ≠ 0) (h1 : PR csz numc okT nt cl w0 p1 r k1) (h2 : PR csz numc okT nt cl w0 p2 s k2) (h3 : cl[c3]? = some (clR (r / s) k3)) (hk : fitr (k1 + k2) k3 = true) : V csz numc okT nt cl w0 (.call 36) [p1, p2] (.val (rq c3)) := by
  have hk := fitr_le hk
  exact ent_rrr (enters_of Tryz.func36 (by kernel_rfl) rfl) h1 h2 h3 (fun z1 z2 => (z1.div z2 h0).le (by omega)) (fun W v1 v2 q1 z1 q2 z2 => rdiv_q v1 v2 r s k3 W q1 q2 h0 (z1.le (by omega)) (z2.le (by omega)) (by omega))
theorem e_rneg (h1 : PR csz numc okT nt cl w0 p1 r k1) (h2 : cl[c2]? = some (clR (-r) k2)) (hk : fitr k1 k2 = true) : V csz numc okT nt cl w0 (.call 38) [p1] (.val (rq c2)) :=
  ent_rr (enters_of Tryz.func38 (by kernel_rfl) rfl) h1 h2 (fun z => z.neg.le (fitr_le hk).1) (fun W v q _ => rneg_q v r W q)

/-! A list of one digit that is made. -/
theorem hd_bs {o : Oper} {t n : Nat} {xs : List Operand} (h : opHd o = some (.bs t n, xs)) : ∃ parts, o.op = .buildSlice t n parts ∧ parts.toList.map (·.1) = List.range parts.toList.length ∧ xs = parts.toList.map (·.2) := by
  unfold opHd at h
  split at h <;> first
    | (rename_i h0
       split at h
       · rename_i hd
         simp only [Option.some.injEq, Prod.mk.injEq, Hd.bs.injEq] at h
         obtain ⟨⟨rfl, rfl⟩, rfl⟩ := h
         exact ⟨_, h0, of_decide_eq_true hd, rfl⟩
       · simp at h)
    | (split at h <;> simp at h)
    | simp at h
theorem e_bs1 {x : Nat} (h1 : PV csz numc okT nt cl w0 p1 (ii (x : Int))) (h3 : RD csz numc okT nt cl w0 res [x]) : V csz numc okT nt cl w0 (.bs 31 1) [p1] res := by
  intro w ρ oo xs ho hb hvs
  obtain ⟨parts, hop, hidx, rfl⟩ := hd_bs ho
  obtain ⟨v1, _, e1, h4, e2⟩ := hvs
  obtain rfl := h1 _ _ h4
  subst e2
  obtain ⟨y, hp, hy⟩ : ∃ y, parts.toList = [(0, y)] ∧ ρ y = ii (x : Int) := by
    cases hl : parts.toList with
    | nil => rw [hl] at e1; simp at e1
    | cons a l =>
      cases l with
      | nil =>
        rw [hl] at e1 hidx
        obtain ⟨i, y⟩ := a
        simp [List.range_succ] at e1 hidx
        exact ⟨y, by rw [hidx], e1⟩
      | cons b l => rw [hl] at e1; simp at e1
  have hu : Tryz.prog.underlying 31 = some (.slice 3) := by kernel_rfl
  obtain ⟨inf, hinf, hz, hs, _⟩ := info_int
  have hf : Instr.fill (fun j => some (j * inf.size, inf.size)) ((Array.range (1 * inf.size)).map ((ii 0).cells[· % (ii 0).cells.size]!)) (parts.map fun (j, x) => (j, ρ x)).toList = some #[ii (x : Int)] := by
    have := Great.fill_whole (s := 1) (by decide) [ii (x : Int)] ((Array.range (1 * 1)).map ((ii 0).cells[· % (ii 0).cells.size]!)) (fun v hv => by
      have : v = ii (x : Int) := by simpa using hv
      subst this
      rfl) (by simp)
    rw [Array.toList_map, hp, hs]
    simp only [List.map_cons, List.map_nil, hy]
    exact this
  have hr := run_buildSlice (P := Tryz.prog) w 31 3 1 (parts.map fun (j, x) => (j, ρ x)) _ inf (ii 0) hu hinf hz (by rw [hs]; omega) (by rw [hs]; omega) hf
  refine ⟨.slice (some ⟨w.heap.size, 0, none⟩) 1 1, w.alloc (.cells #[ii (x : Int)] 3), ?_, h3 _ _ ⟨some ⟨w.heap.size, 0, none⟩, 1, rfl, Nat.le_refl _, by decide, fun _ => ⟨_, 0, rfl, ⟨_, _, heap_alloc_new w _⟩, fun i hi => ?_⟩⟩, (Below.refl _ _).alloc (Nat.le_refl _) _⟩
  · show (execOp ρ oo).run Tryz.prog w = _
    simp only [execOp, hop, Sem.run_bind, hr, Result.andThen_ok]
    rfl
  · have hi : i < 1 := hi
    obtain rfl : i = 0 := by omega
    simp only [World.cell?, heap_alloc_new]
    rfl
/-- The lesser one. -/
theorem e_min {ats : List Nat} {t : Nat} {x y : Int} (h1 : PV csz numc okT nt cl w0 p1 (ii x)) (h2 : PV csz numc okT nt cl w0 p2 (ii y)) (h3 : RV csz numc okT nt cl w0 res (ii (if y < x then y else x))) : V csz numc okT nt cl w0 (.blt .min ats t) [p1, p2] res := by
  intro w ρ oo xs ho hb hvs
  obtain ⟨c, hop, hc, hat, hty, rfl⟩ := hd_blt ho
  obtain ⟨v1, _, e1, h4, v2, _, e2, h5, e3⟩ := hvs
  obtain rfl := h1 _ _ h4
  obtain rfl := h2 _ _ h5
  subst e2
  subst e3
  refine ⟨_, w, ?_, h3 w, Below.refl _ _⟩
  have he : c.args.map ρ = #[ii x, ii y] := by
    apply Array.ext'
    simpa using e1
  show (execOp ρ oo).run Tryz.prog w = _
  simp only [execOp, hop, resolve, hc, he, Sem.run_bind, Sem.run_pure, Result.andThen_ok, invoke, builtin, run_min_int2]
end
end Sym
end Go.Proofs.YtccabfblgjcboaaGreatDoor

/- The reference's Sub, Sign, Cmp, Min, Max, Abs, IsZero. -/
namespace Go.Proofs.YtccabfblgjcboaaGreatDoor
open Go Go.RowKit Go.Proofs Lim
namespace Sym
theorem fitr_mk {n k : Nat} (h1 : n ≤ k) (h2 : k ≤ 100000) : fitr n k = true := by
  simp only [fitr, Bool.and_eq_true]
  exact ⟨Nat.ble_eq_true_of_le h1, Nat.ble_eq_true_of_le h2⟩
theorem rsub_q (x y : Value) (r s : Rat) (k : Nat) (w : World) (hx : RQ w x r) (hy : RQ w y s) (z1 : Siz r k) (z2 : Siz s k) (hk : k + k + 1 ≤ 100000) : Calls Tryz.prog 28 #[x, y] w (RNew w (r - s)) := by
  have hC : (mkC [3, 3, 3, 3] [true, true, true, true] [33] 9 [clR r k, clR s k, clR (-s) k, clR (r + -s) (k + k + 1)] w).Ok := mkC_ok (oks_cons (clR_ok ratT _ _) (oks_cons (clR_ok ratT _ _) (oks_cons (clR_ok ratT _ _) (oks_cons (clR_ok ratT _ _) oks_nil)))) rfl rfl
  have hT : ∀ t ∈ ([⟨.call 38, [rq 1], .val (rq 2)⟩, ⟨.call 26, [rq 0, rq 2], .val (rq 3)⟩] : List Ent), t.Valid (mkC [3, 3, 3, 3] [true, true, true, true] [33] 9 [clR r k, clR s k, clR (-s) k, clR (r + -s) (k + k + 1)] w) :=
    forall_cons (e_rneg (pr rfl) rfl (fitr_mk (Nat.le_refl _) (by omega))) (forall_cons (e_radd (pr rfl) (pr rfl) rfl (fitr_mk (Nat.le_refl _) hk)) forall_nil)
  refine (run_mk hC hT 28 Tryz.f28 [rq 0, rq 1] (.val (rq 3)) 60 Tryz.func28 rfl rfl rfl (by kernel_rfl) [x, y] ⟨_, _, rfl, (rq_is rfl).2 ⟨hx, z1⟩, _, _, rfl, (rq_is rfl).2 ⟨hy, z2⟩, rfl⟩).mono ?_
  rintro e w' ⟨v, rfl, hv, hb⟩
  refine ⟨v, rfl, ?_, hb⟩
  rw [Rat.sub_eq_add_neg]
  exact ((rq_is rfl).1 hv).1
section
variable {csz : List Nat} {numc : List Bool} {okT : List Nat} {nt : Nat} {cl : List Cl} {w0 : World} {w : World} {v : Value} {p1 p2 p3 p4 : Pat} {res : RPat} {c d c1 c2 c3 c4 c5 c6 : Nat} {r s t r1 r2 r3 r4 : Rat} {k k1 k2 k3 k4 k5 k6 : Nat}
theorem e_rsub (h1 : PR csz numc okT nt cl w0 p1 r k1) (h2 : PR csz numc okT nt cl w0 p2 s k2) (h3 : cl[c3]? = some (clR (r - s) k3)) (hk : fitr (k1 + k2 + 1) k3 = true) (hk' : fitr k3 40000 = true) : V csz numc okT nt cl w0 (.call 28) [p1, p2] (.val (rq c3)) := by
  have hk := fitr_le hk
  have hk' := fitr_le hk'
  exact ent_rrr (enters_of Tryz.func28 (by kernel_rfl) rfl) h1 h2 h3 (fun z1 z2 => (z1.sub z2).le (by omega)) (fun W v1 v2 q1 z1 q2 z2 => rsub_q v1 v2 r s k3 W q1 q2 (z1.le (by omega)) (z2.le (by omega)) (by omega))
end

/-! Signs. -/
theorem und_rat : True := trivial
def t_sign : List Ent := [⟨.blt .len [31] 3, [op 0], .val (op 2)⟩, ⟨.blt .min [3, 3] 3, [op 2, vp (ii 1)], .val (op 3)⟩]
abbrev cl_sign (a b : Nat) : List Cl := [clD (digs a), clD (digs b), clV (ii ((digs a).length : Int)), clV (ii (if (1 : Int) < ((digs a).length : Int) then 1 else ((digs a).length : Int)))]
noncomputable abbrev C_sign (a b : Nat) (w : World) : Ctx := mkC [1, 1, 1, 1] [false, false, true, true] [33] 9 (cl_sign a b) w
theorem rl_isS {a b : Nat} {w0 w : World} {v : Value} {s : Bool} : (Pat.agg [.lit (.bool s), .cls 0 1, .cls 1 1]).is (C_sign a b w0) w v ↔ RatP w v s a b := by
  constructor
  · rintro ⟨vs, ⟨xs, ys, rfl, rfl, xs2, ys2, rfl, ⟨f, hE, rfl⟩, xs3, ys3, rfl, ⟨g, hE', rfl⟩, h5⟩, rfl⟩
    rw [show ys3 = [] from h5]
    exact ⟨f 0, g 0, by simp [List.range_succ], hE, hE'⟩
  · rintro ⟨x, y, rfl, ha, hb⟩
    exact ⟨[.bool s, x, y], ⟨[.bool s], [x, y], rfl, rfl, [x], [y], rfl, ⟨fun _ => x, ha, rfl⟩, [y], [], rfl, ⟨fun _ => y, hb, rfl⟩, rfl⟩, rfl⟩
theorem rsign_q (x : Value) (r : Rat) (w : World) (hx : RQ w x r) : Calls Tryz.prog 33 #[x] w (Go.Proofs.YtccabfblgjcboaaGreatDoor.Val w (.int .i64 (sign r))) := by
  have hC : (C_sign r.num.natAbs r.den w).Ok := mkC_ok (oks_cons (clD_ok ratT _) (oks_cons (clD_ok ratT _) (oks_cons (clVi_ok _) (oks_cons (clVi_ok _) oks_nil)))) rfl rfl
  have hT : ∀ t ∈ t_sign, t.Valid (C_sign r.num.natAbs r.den w) := forall_cons (e_len und_nat (pd rfl) (rv rfl)) (forall_cons (e_min (pv rfl) pvl (rv rfl)) forall_nil)
  have hx : RatP w x (decide (r.num < 0)) r.num.natAbs r.den := hx
  by_cases h : r.num < 0
  · rw [decide_eq_true h] at hx
    refine (run_mk hC hT 33 Tryz.f33 [.agg [.lit (.bool true), .cls 0 1, .cls 1 1]] (.val (vp (ii (-1)))) 60 Tryz.func33 rfl rfl rfl (by kernel_rfl) [x] ⟨_, _, rfl, rl_isS.2 hx, rfl⟩).mono ?_
    rintro e w' ⟨v, rfl, hv, hb⟩
    rw [val_of hv]
    have : sign r = -1 := by unfold sign; rw [if_neg (by omega), if_pos h]
    exact ⟨by rw [this], hb⟩
  · rw [decide_eq_false h] at hx
    refine (run_mk hC hT 33 Tryz.f33 [.agg [.lit (.bool false), .cls 0 1, .cls 1 1]] (.val (op 3)) 60 Tryz.func33 rfl rfl rfl (by kernel_rfl) [x] ⟨_, _, rfl, rl_isS.2 hx, rfl⟩).mono ?_
    rintro e w' ⟨v, rfl, hv, hb⟩
    rw [(op_is rfl).1 hv]
    refine ⟨?_, hb⟩
    congr 2
    have := digs_pos_len (n := r.num.natAbs)
    unfold sign
    rw [if_neg h]
    by_cases h0 : r.num = 0
    · rw [if_pos h0, h0]
      have : (digs (Int.natAbs 0)).length = 0 := by rw [show Int.natAbs 0 = 0 from rfl, digs_zero]; rfl
      rw [this]; rfl
    · rw [if_neg h0]
      have : 0 < (digs r.num.natAbs).length := this.2 (by omega)
      split <;> omega
theorem sign_sub (r s : Rat) : sign (r - s) = cmpQ r s := by
  have h1 : (r - s).num = 0 ↔ r - s = 0 := Rat.num_eq_zero
  have h2 : 0 ≤ (r - s).num ↔ 0 ≤ r - s := Rat.num_nonneg
  unfold sign cmpQ
  by_cases a : r < s
  · have e1 : ¬ r - s = 0 := by grind
    have e2 : ¬ 0 ≤ r - s := by grind
    have e3 : ¬ (r - s).num = 0 := fun h => e1 (h1.1 h)
    have e4 : (r - s).num < 0 := Int.not_le.1 (fun h => e2 (h2.1 h))
    rw [if_neg e3, if_pos e4, if_pos a]
  · rw [if_neg a]
    have e2 : 0 ≤ r - s := by grind
    have e4 : ¬ (r - s).num < 0 := Int.not_lt.2 (h2.2 e2)
    by_cases b : s < r
    · have e1 : ¬ r - s = 0 := by grind
      rw [if_neg (fun h => e1 (h1.1 h)), if_neg e4, if_pos b]
    · have e1 : r - s = 0 := by grind
      rw [if_pos (h1.2 e1), if_neg b]
theorem rcmp_q (x y : Value) (r s : Rat) (k : Nat) (w : World) (hx : RQ w x r) (hy : RQ w y s) (z1 : Siz r k) (z2 : Siz s k) (hk : k ≤ 10000) : Calls Tryz.prog 32 #[x, y] w (Go.Proofs.YtccabfblgjcboaaGreatDoor.Val w (.int .i64 (cmpQ r s))) := by
  have hC : (mkC [3, 3, 3, 1] [true, true, true, true] [33] 9 [clR r k, clR s k, clR (r - s) (k + k + 1), clV (ii (sign (r - s)))] w).Ok := mkC_ok (oks_cons (clR_ok ratT _ _) (oks_cons (clR_ok ratT _ _) (oks_cons (clR_ok ratT _ _) (oks_cons (clVi_ok _) oks_nil)))) rfl rfl
  have hT : ∀ t ∈ ([⟨.call 28, [rq 0, rq 1], .val (rq 2)⟩, ⟨.call 33, [rq 2], .val (op 3)⟩] : List Ent), t.Valid (mkC [3, 3, 3, 1] [true, true, true, true] [33] 9 [clR r k, clR s k, clR (r - s) (k + k + 1), clV (ii (sign (r - s)))] w) := by
    refine forall_cons (e_rsub (pr rfl) (pr rfl) rfl (fitr_mk (Nat.le_refl _) (by omega)) (fitr_mk (by omega) (by decide))) (forall_cons ⟨enters_of Tryz.func33 (by kernel_rfl) rfl, fun w vs hb hvs => ?_⟩ forall_nil)
    obtain ⟨v1, _, rfl, h4, rfl⟩ := hvs
    refine (rsign_q v1 (r - s) w ((rq_is rfl).1 h4).1).mono ?_
    rintro e w' ⟨rfl, hb'⟩
    exact ⟨_, rfl, (op_is rfl).2 rfl, hb'⟩
  refine (run_mk hC hT 32 Tryz.f32 [rq 0, rq 1] (.val (op 3)) 60 Tryz.func32 rfl rfl rfl (by kernel_rfl) [x, y] ⟨_, _, rfl, (rq_is rfl).2 ⟨hx, z1⟩, _, _, rfl, (rq_is rfl).2 ⟨hy, z2⟩, rfl⟩).mono ?_
  rintro e w' ⟨v, rfl, hv, hb⟩
  rw [(op_is rfl).1 hv, ← sign_sub]
  exact ⟨rfl, hb⟩
section
variable {csz : List Nat} {numc : List Bool} {okT : List Nat} {nt : Nat} {cl : List Cl} {w0 : World} {w : World} {v : Value} {p1 p2 p3 p4 : Pat} {res : RPat} {c d c1 c2 c3 c4 c5 c6 : Nat} {r s t r1 r2 r3 r4 : Rat} {k k1 k2 k3 k4 k5 k6 : Nat}
theorem e_rsign {x : Int} (h1 : PR csz numc okT nt cl w0 p1 r k1) (h : sign r = x) : V csz numc okT nt cl w0 (.call 33) [p1] (.val (vp (.int .i64 x))) := by
  subst h
  exact ent_rv (enters_of Tryz.func33 (by kernel_rfl) rfl) h1 (fun W v q _ => rsign_q v r W q)
theorem e_rcmp {x : Int} (h1 : PR csz numc okT nt cl w0 p1 r k1) (h2 : PR csz numc okT nt cl w0 p2 s k2) (hk : fitr (k1 + k2) 10000 = true) (h : cmpQ r s = x) : V csz numc okT nt cl w0 (.call 32) [p1, p2] (.val (vp (.int .i64 x))) := by
  subst h
  have hk := fitr_le hk
  exact ent_rrv (enters_of Tryz.func32 (by kernel_rfl) rfl) h1 h2 (fun W v1 v2 q1 z1 q2 z2 => rcmp_q v1 v2 r s (k1 + k2) W q1 q2 (z1.le (by omega)) (z2.le (by omega)) (by omega))
end
theorem cmpQ_cases (r s : Rat) : (cmpQ r s = -1 ∧ r < s) ∨ (cmpQ r s = 0 ∧ r = s) ∨ (cmpQ r s = 1 ∧ s < r) := by
  unfold cmpQ
  by_cases a : r < s
  · exact .inl ⟨if_pos a, a⟩
  · by_cases b : s < r
    · exact .inr (.inr ⟨by rw [if_neg a, if_pos b], b⟩)
    · exact .inr (.inl ⟨by rw [if_neg a, if_neg b], by grind⟩)
def minQ (r s : Rat) : Rat := if r ≤ s then r else s
def maxQ (r s : Rat) : Rat := if s ≤ r then r else s
theorem rmin_q (x y : Value) (r s : Rat) (k : Nat) (w : World) (hx : RQ w x r) (hy : RQ w y s) (z1 : Siz r k) (z2 : Siz s k) (hk : k ≤ 5000) : Calls Tryz.prog 106 #[x, y] w (RNew w (minQ r s)) := by
  have hC : (mkC [3, 3] [true, true] [33] 11 [clR r k, clR s k] w).Ok := mkC_ok (oks_cons (clR_ok ratT _ _) (oks_cons (clR_ok ratT _ _) oks_nil)) rfl rfl
  have hT : ∀ i, cmpQ r s = i → ∀ t ∈ ([⟨.call 32, [rq 0, rq 1], .val (vp (ii i))⟩] : List Ent), t.Valid (mkC [3, 3] [true, true] [33] 11 [clR r k, clR s k] w) := fun i hi => forall_cons (e_rcmp (pr rfl) (pr rfl) (fitr_mk (by omega) (by decide)) hi) forall_nil
  have hv : PatsAre (mkC [3, 3] [true, true] [33] 11 [clR r k, clR s k] w) w [rq 0, rq 1] [x, y] := ⟨_, _, rfl, (rq_is rfl).2 ⟨hx, z1⟩, _, _, rfl, (rq_is rfl).2 ⟨hy, z2⟩, rfl⟩
  unfold minQ
  rcases cmpQ_cases r s with ⟨h, g⟩ | ⟨h, g⟩ | ⟨h, g⟩
  · rw [if_pos (by grind)]
    refine (run_mk hC (hT _ h) 106 Tryz.f106 [rq 0, rq 1] (.val (rq 0)) 60 Tryz.func106 rfl rfl rfl (by kernel_rfl) [x, y] hv).mono ?_
    rintro e w' ⟨v, rfl, hv, hb⟩
    exact ⟨v, rfl, ((rq_is rfl).1 hv).1, hb⟩
  · rw [if_pos (by grind)]
    refine (run_mk hC (hT _ h) 106 Tryz.f106 [rq 0, rq 1] (.val (rq 0)) 60 Tryz.func106 rfl rfl rfl (by kernel_rfl) [x, y] hv).mono ?_
    rintro e w' ⟨v, rfl, hv, hb⟩
    exact ⟨v, rfl, ((rq_is rfl).1 hv).1, hb⟩
  · rw [if_neg (by grind)]
    refine (run_mk hC (hT _ h) 106 Tryz.f106 [rq 0, rq 1] (.val (rq 1)) 60 Tryz.func106 rfl rfl rfl (by kernel_rfl) [x, y] hv).mono ?_
    rintro e w' ⟨v, rfl, hv, hb⟩
    exact ⟨v, rfl, ((rq_is rfl).1 hv).1, hb⟩
theorem rmax_q (x y : Value) (r s : Rat) (k : Nat) (w : World) (hx : RQ w x r) (hy : RQ w y s) (z1 : Siz r k) (z2 : Siz s k) (hk : k ≤ 5000) : Calls Tryz.prog 107 #[x, y] w (RNew w (maxQ r s)) := by
  have hC : (mkC [3, 3] [true, true] [33] 11 [clR r k, clR s k] w).Ok := mkC_ok (oks_cons (clR_ok ratT _ _) (oks_cons (clR_ok ratT _ _) oks_nil)) rfl rfl
  have hT : ∀ i, cmpQ r s = i → ∀ t ∈ ([⟨.call 32, [rq 0, rq 1], .val (vp (ii i))⟩] : List Ent), t.Valid (mkC [3, 3] [true, true] [33] 11 [clR r k, clR s k] w) := fun i hi => forall_cons (e_rcmp (pr rfl) (pr rfl) (fitr_mk (by omega) (by decide)) hi) forall_nil
  have hv : PatsAre (mkC [3, 3] [true, true] [33] 11 [clR r k, clR s k] w) w [rq 0, rq 1] [x, y] := ⟨_, _, rfl, (rq_is rfl).2 ⟨hx, z1⟩, _, _, rfl, (rq_is rfl).2 ⟨hy, z2⟩, rfl⟩
  unfold maxQ
  rcases cmpQ_cases r s with ⟨h, g⟩ | ⟨h, g⟩ | ⟨h, g⟩
  · rw [if_neg (by grind)]
    refine (run_mk hC (hT _ h) 107 Tryz.f107 [rq 0, rq 1] (.val (rq 1)) 60 Tryz.func107 rfl rfl rfl (by kernel_rfl) [x, y] hv).mono ?_
    rintro e w' ⟨v, rfl, hv, hb⟩
    exact ⟨v, rfl, ((rq_is rfl).1 hv).1, hb⟩
  · rw [if_pos (by grind)]
    refine (run_mk hC (hT _ h) 107 Tryz.f107 [rq 0, rq 1] (.val (rq 0)) 60 Tryz.func107 rfl rfl rfl (by kernel_rfl) [x, y] hv).mono ?_
    rintro e w' ⟨v, rfl, hv, hb⟩
    exact ⟨v, rfl, ((rq_is rfl).1 hv).1, hb⟩
  · rw [if_pos (by grind)]
    refine (run_mk hC (hT _ h) 107 Tryz.f107 [rq 0, rq 1] (.val (rq 0)) 60 Tryz.func107 rfl rfl rfl (by kernel_rfl) [x, y] hv).mono ?_
    rintro e w' ⟨v, rfl, hv, hb⟩
    exact ⟨v, rfl, ((rq_is rfl).1 hv).1, hb⟩
theorem absQ_sizR {r : Rat} {k : Nat} (z : Siz r k) : Siz (absQ r) k := by
  unfold absQ
  split
  · exact z.neg
  · exact z
theorem rabs_q (x : Value) (r : Rat) (w : World) (hx : RQ w x r) : Calls Tryz.prog 40 #[x] w (RNew w (absQ r)) := by
  have hC : (mkC [1, 1, 1] [true, false, false] [33] 8 [clV (.bool (decide (r.num < 0))), clD (digs r.num.natAbs), clD (digs r.den)] w).Ok := mkC_ok (oks_cons (clVb_ok _) (oks_cons (clD_ok ratT _) (oks_cons (clD_ok ratT _) oks_nil))) rfl rfl
  refine (run_mk (T := []) hC (fun t h => by simp at h) 40 Tryz.f40 [rp 0 1 2] (.val (.agg [.lit (.bool false), .cls 1 1, .cls 2 1])) 60 Tryz.func40 rfl rfl rfl (by kernel_rfl) [x] ⟨_, _, rfl, (rp_is rfl rfl rfl).2 hx, rfl⟩).mono ?_
  rintro e w' ⟨v, rfl, ⟨vs, ⟨xs, ys, rfl, rfl, xs2, ys2, rfl, ⟨f, hE, rfl⟩, xs3, ys3, rfl, ⟨g, hE', rfl⟩, h5⟩, rfl⟩, hb⟩
  rw [show ys3 = [] from h5]
  refine ⟨_, rfl, ?_, hb⟩
  have hE : Dg w' (f 0) (digs r.num.natAbs) := hE
  have hE' : Dg w' (g 0) (digs r.den) := hE'
  have h1 : decide ((absQ r).num < 0) = false := by
    unfold absQ
    by_cases h : r.num < 0
    · rw [if_pos h, Rat.neg_num]
      exact decide_eq_false (by omega)
    · rw [if_neg h]
      exact decide_eq_false h
  have h2 : (absQ r).num.natAbs = r.num.natAbs := by
    unfold absQ
    split
    · rw [Rat.neg_num, Int.natAbs_neg]
    · rfl
  have h3 : (absQ r).den = r.den := by
    unfold absQ
    split
    · rw [Rat.neg_den]
    · rfl
  show RatP w' _ _ _ _
  rw [h1, h2, h3]
  exact ⟨f 0, g 0, by simp [List.range_succ], hE, hE'⟩
theorem riszero_q (x : Value) (r : Rat) (w : World) (hx : RQ w x r) : Calls Tryz.prog 35 #[x] w (Go.Proofs.YtccabfblgjcboaaGreatDoor.Val w (.bool (decide (r = 0)))) := by
  have hC : (mkC [1, 1, 1, 1] [true, false, false, true] [33] 7 [clV (.bool (decide (r.num < 0))), clD (digs r.num.natAbs), clD (digs r.den), clV (ii ((digs r.num.natAbs).length : Int))] w).Ok := mkC_ok (oks_cons (clVb_ok _) (oks_cons (clD_ok ratT _) (oks_cons (clD_ok ratT _) (oks_cons (clVi_ok _) oks_nil)))) rfl rfl
  have h0 := digs_pos_len (n := r.num.natAbs)
  have h1 : r.num = 0 ↔ r = 0 := Rat.num_eq_zero
  have hT : ∀ b, decide (r = 0) = b → ∀ t ∈ ([⟨.blt .len [31] 3, [op 1], .val (op 3)⟩, ⟨.bin .eql 3, [op 3, vp (ii 0)], .val (vp (.bool b))⟩] : List Ent), t.Valid (mkC [1, 1, 1, 1] [true, false, false, true] [33] 7 [clV (.bool (decide (r.num < 0))), clD (digs r.num.natAbs), clD (digs r.den), clV (ii ((digs r.num.natAbs).length : Int))] w) :=
    fun b hb => forall_cons (e_len und_nat (pd rfl) (rv rfl)) (forall_cons (e_eql (pv rfl) pvl (by rw [← hb]; congr 1; apply propext; rw [← h1]; omega)) forall_nil)
  cases hd : decide (r = 0) with
  | true =>
    refine (run_mk hC (hT _ hd) 35 Tryz.f35 [rp 0 1 2] (.val (vp (.bool true))) 60 Tryz.func35 rfl rfl rfl (by kernel_rfl) [x] ⟨_, _, rfl, (rp_is rfl rfl rfl).2 hx, rfl⟩).mono ?_
    rintro e w' ⟨v, rfl, hv, hb⟩
    rw [val_of hv]
    exact ⟨rfl, hb⟩
  | false =>
    refine (run_mk hC (hT _ hd) 35 Tryz.f35 [rp 0 1 2] (.val (vp (.bool false))) 60 Tryz.func35 rfl rfl rfl (by kernel_rfl) [x] ⟨_, _, rfl, (rp_is rfl rfl rfl).2 hx, rfl⟩).mono ?_
    rintro e w' ⟨v, rfl, hv, hb⟩
    rw [val_of hv]
    exact ⟨rfl, hb⟩
section
variable {csz : List Nat} {numc : List Bool} {okT : List Nat} {nt : Nat} {cl : List Cl} {w0 : World} {w : World} {v : Value} {p1 p2 p3 p4 : Pat} {res : RPat} {c d c1 c2 c3 c4 c5 c6 : Nat} {r s t r1 r2 r3 r4 : Rat} {k k1 k2 k3 k4 k5 k6 : Nat}
theorem minQ_siz (z1 : Siz r k) (z2 : Siz s k) : Siz (minQ r s) k := by unfold minQ; split <;> assumption
theorem maxQ_siz (z1 : Siz r k) (z2 : Siz s k) : Siz (maxQ r s) k := by unfold maxQ; split <;> assumption
theorem e_rmin (h1 : PR csz numc okT nt cl w0 p1 r k1) (h2 : PR csz numc okT nt cl w0 p2 s k2) (h3 : cl[c3]? = some (clR (minQ r s) k3)) (hk : fitr (k1 + k2) k3 = true) (hk' : fitr k3 5000 = true) : V csz numc okT nt cl w0 (.call 106) [p1, p2] (.val (rq c3)) := by
  have hk := fitr_le hk
  have hk' := fitr_le hk'
  exact ent_rrr (enters_of Tryz.func106 (by kernel_rfl) rfl) h1 h2 h3 (fun z1 z2 => minQ_siz (z1.le (by omega)) (z2.le (by omega))) (fun W v1 v2 q1 z1 q2 z2 => rmin_q v1 v2 r s k3 W q1 q2 (z1.le (by omega)) (z2.le (by omega)) (by omega))
theorem e_rmax (h1 : PR csz numc okT nt cl w0 p1 r k1) (h2 : PR csz numc okT nt cl w0 p2 s k2) (h3 : cl[c3]? = some (clR (maxQ r s) k3)) (hk : fitr (k1 + k2) k3 = true) (hk' : fitr k3 5000 = true) : V csz numc okT nt cl w0 (.call 107) [p1, p2] (.val (rq c3)) := by
  have hk := fitr_le hk
  have hk' := fitr_le hk'
  exact ent_rrr (enters_of Tryz.func107 (by kernel_rfl) rfl) h1 h2 h3 (fun z1 z2 => maxQ_siz (z1.le (by omega)) (z2.le (by omega))) (fun W v1 v2 q1 z1 q2 z2 => rmax_q v1 v2 r s k3 W q1 q2 (z1.le (by omega)) (z2.le (by omega)) (by omega))
theorem e_rabs (h1 : PR csz numc okT nt cl w0 p1 r k1) (h2 : cl[c2]? = some (clR (absQ r) k2)) (hk : fitr k1 k2 = true) : V csz numc okT nt cl w0 (.call 40) [p1] (.val (rq c2)) :=
  ent_rr (enters_of Tryz.func40 (by kernel_rfl) rfl) h1 h2 (fun z => (absQ_sizR z).le (fitr_le hk).1) (fun W v q _ => rabs_q v r W q)
theorem e_riszero {b : Bool} (h1 : PR csz numc okT nt cl w0 p1 r k1) (h : decide (r = 0) = b) : V csz numc okT nt cl w0 (.call 35) [p1] (.val (vp (.bool b))) := by
  subst h
  exact ent_rv (enters_of Tryz.func35 (by kernel_rfl) rfl) h1 (fun W v q _ => riszero_q v r W q)
end
end Sym
end Go.Proofs.YtccabfblgjcboaaGreatDoor

/- The reference's Int, Frac, Floor, Ceil. -/
namespace Go.Proofs.YtccabfblgjcboaaGreatDoor
open Go Go.RowKit Go.Proofs Lim
namespace Sym
def rl (s : Bool) (c d : Nat) : Pat := .agg [.lit (.bool s), .cls c 1, .cls d 1]
section
variable {csz : List Nat} {numc : List Bool} {okT : List Nat} {nt : Nat} {cl : List Cl} {w0 : World} {w : World} {v z : Value} {p1 p2 p3 p4 : Pat} {res : RPat} {c d c1 c2 c3 c4 c5 c6 : Nat} {r s t r1 r2 r3 r4 : Rat} {k k1 k2 k3 k4 k5 k6 : Nat}
theorem rl_is2 {s : Bool} {a b : Nat} (h1 : cl[c]? = some (clD (digs a))) (h2 : cl[d]? = some (clD (digs b))) : (rl s c d).is (mkC csz numc okT nt cl w0) w v ↔ RatP w v s a b := by
  constructor
  · rintro ⟨vs, ⟨xs, ys, rfl, rfl, xs2, ys2, rfl, ⟨f, hE, rfl⟩, xs3, ys3, rfl, ⟨g, hE', rfl⟩, h5⟩, rfl⟩
    rw [show ys3 = [] from h5]
    simp only [mkC, h1] at hE
    simp only [mkC, h2] at hE'
    exact ⟨f 0, g 0, by simp [List.range_succ], hE, hE'⟩
  · rintro ⟨x, y, rfl, ha, hb⟩
    refine ⟨[.bool s, x, y], ⟨[.bool s], [x, y], rfl, rfl, [x], [y], rfl, ⟨fun _ => x, ?_, rfl⟩, [y], [], rfl, ⟨fun _ => y, ?_, rfl⟩, rfl⟩, rfl⟩
    · simp only [mkC, h1]; exact ha
    · simp only [mkC, h2]; exact hb
theorem hd_un {o : Oper} {u : UnOp} {t : Nat} {xs : List Operand} (h : opHd o = some (.un u t, xs)) : ∃ x, o.op = .unOp u t x ∧ xs = [x] := by
  unfold opHd at h
  split at h <;> first
    | (rename_i h0; simp only [Option.some.injEq, Prod.mk.injEq, Hd.un.injEq, reduceCtorEq, false_and] at h; try (obtain ⟨⟨rfl, rfl⟩, rfl⟩ := h; exact ⟨_, h0, rfl⟩))
    | (split at h <;> simp at h)
    | simp at h
theorem e_un {u : UnOp} {t : Nat} {x : Value} (h1 : PV csz numc okT nt cl w0 p1 x) (h3 : RV csz numc okT nt cl w0 res z) (hr : ∀ w, (Op.unary u x).run Tryz.prog w = .ok z w) : V csz numc okT nt cl w0 (.un u t) [p1] res := by
  intro w ρ oo xs ho hb hvs
  obtain ⟨a, hop, rfl⟩ := hd_un ho
  obtain ⟨v1, _, e1, h4, e2⟩ := hvs
  obtain rfl := h1 _ _ h4
  subst e2
  simp only [List.map_cons, List.map_nil, List.cons.injEq] at e1
  obtain ⟨ea, _⟩ := e1
  refine ⟨z, w, ?_, h3 w, Below.refl _ _⟩
  show (execOp ρ oo).run Tryz.prog w = _
  simp only [execOp, hop, ea, Sem.run_bind, hr w, Result.andThen_ok]
  rfl
theorem e_negi {t : Nat} {x u : Int} (hz : -x = u) (h1 : PV csz numc okT nt cl w0 p1 (ii x)) (h3 : RV csz numc okT nt cl w0 res (ii u)) (hr : -9223372036854775808 ≤ u ∧ u ≤ 9223372036854775807) : V csz numc okT nt cl w0 (.un .neg t) [p1] res :=
  e_un h1 h3 (fun w => by
    show Result.ok (Value.int .i64 (IntKind.i64.wrap (0 - x))) w = _
    rw [show 0 - x = u by omega, show IntKind.i64.wrap u = u by rw [IntKind.wrap_i64]; omega])
theorem e_addu {t : Nat} {x y u : Int} (hz : x + y = u) (h1 : PV csz numc okT nt cl w0 p1 (.int .u64 x)) (h2 : PV csz numc okT nt cl w0 p2 (.int .u64 y)) (h3 : RV csz numc okT nt cl w0 res (.int .u64 u)) (hr : 0 ≤ u ∧ u ≤ 18446744073709551615) : V csz numc okT nt cl w0 (.bin .add t) [p1, p2] res :=
  e_bin h1 h2 h3 (fun w => by
    show Result.ok (Value.int .u64 (IntKind.u64.wrap (x + y))) w = _
    rw [hz, show IntKind.u64.wrap u = u by rw [IntKind.wrap_u64]; omega])
end
theorem digs_one : digs 1 = [1] := by rw [digs_pos (by decide), show (1 : Nat) / 10000 = 0 from rfl, digs_zero]
theorem clVu_ok {okT : List Nat} {B : Nat} (n : Int) : (clV (.int .u64 n)).Ok okT B := clV_ok rfl
theorem rq_intcast {w : World} {v : Value} {i : Int} {s : Bool} (hs : s = decide (i < 0)) (h : RatP w v s i.natAbs 1) : RQ w v (i : Rat) := by
  subst hs
  exact h
theorem rint_q (i : Int) (h1 : -9223372036854775808 ≤ i) (h2 : i ≤ 9223372036854775807) (w : World) : Calls Tryz.prog 16 #[.int .i64 i] w (RNew w (i : Rat)) := by
  by_cases hi : i < 0
  · have hC : (mkC [1, 1, 1, 1, 1, 1, 1] [true, true, true, true, true, false, false] [33] 18 [clV (ii i), clV (ii (i + 1)), clV (ii (-(i + 1))), clV (.int .u64 (-(i + 1))), clV (.int .u64 ((i.natAbs : Nat) : Int)), clD (digs i.natAbs), clD (digs 1)] w).Ok :=
      mkC_ok (oks_cons (clVi_ok _) (oks_cons (clVi_ok _) (oks_cons (clVi_ok _) (oks_cons (clVu_ok _) (oks_cons (clVu_ok _) (oks_cons (clD_ok ratT _) (oks_cons (clD_ok ratT _) oks_nil))))))) rfl rfl
    have hT : ∀ t ∈ ([⟨.bin .lss 2, [op 0, vp (ii 0)], .val (vp (.bool true))⟩, ⟨.bin .add 2, [op 0, vp (ii 1)], .val (op 1)⟩, ⟨.un .neg 2, [op 1], .val (op 2)⟩, ⟨.cv 2 23, [op 2], .val (op 3)⟩,
        ⟨.bin .add 23, [op 3, vp (.int .u64 1)], .val (op 4)⟩, ⟨.call 87, [op 4], .val (op 5)⟩, ⟨.bs 31 1, [vp (ii 1)], .val (op 6)⟩] : List Ent), t.Valid (mkC [1, 1, 1, 1, 1, 1, 1] [true, true, true, true, true, false, false] [33] 18 [clV (ii i), clV (ii (i + 1)), clV (ii (-(i + 1))), clV (.int .u64 (-(i + 1))), clV (.int .u64 ((i.natAbs : Nat) : Int)), clD (digs i.natAbs), clD (digs 1)] w) :=
      forall_cons (e_lss (pv rfl) pvl (decide_eq_true hi)) (forall_cons (e_add rfl (pv rfl) pvl (rv rfl) (by omega)) (forall_cons (e_negi rfl (pv rfl) (rv rfl) (by omega)) (forall_cons (e_cv (by kernel_rfl) (by kernel_rfl) (by kernel_rfl) (pv rfl) (rv rfl) (by rw [IntKind.wrap_u64]; omega))
        (forall_cons (e_addu (by omega) (pv rfl) pvl (rv rfl) (by omega)) (forall_cons (e_small (by omega) (pv rfl) (rd rfl)) (forall_cons (e_bs1 (x := 1) pvl (rd (by rw [← digs_one]; rfl))) forall_nil))))))
    refine (run_mk hC hT 16 Tryz.f16 [op 0] (.val (rl true 5 6)) 60 Tryz.func16 rfl rfl rfl (by kernel_rfl) [.int .i64 i] ⟨_, _, rfl, (op_is rfl).2 rfl, rfl⟩).mono ?_
    rintro e w' ⟨v, rfl, hv, hb⟩
    exact ⟨v, rfl, rq_intcast (by simp [hi]) ((rl_is2 rfl rfl).1 hv), hb⟩
  · have hC : (mkC [1, 1, 1, 1] [true, true, false, false] [33] 18 [clV (ii i), clV (.int .u64 ((i.natAbs : Nat) : Int)), clD (digs i.natAbs), clD (digs 1)] w).Ok :=
      mkC_ok (oks_cons (clVi_ok _) (oks_cons (clVu_ok _) (oks_cons (clD_ok ratT _) (oks_cons (clD_ok ratT _) oks_nil)))) rfl rfl
    have ei : (i.natAbs : Int) = i := by omega
    have hT : ∀ t ∈ ([⟨.bin .lss 2, [op 0, vp (ii 0)], .val (vp (.bool false))⟩, ⟨.cv 2 23, [op 0], .val (op 1)⟩,
        ⟨.call 87, [op 1], .val (op 2)⟩, ⟨.bs 31 1, [vp (ii 1)], .val (op 3)⟩] : List Ent), t.Valid (mkC [1, 1, 1, 1] [true, true, false, false] [33] 18 [clV (ii i), clV (.int .u64 ((i.natAbs : Nat) : Int)), clD (digs i.natAbs), clD (digs 1)] w) :=
      forall_cons (e_lss (pv rfl) pvl (decide_eq_false hi)) (forall_cons (e_cv (x := i) (by kernel_rfl) (by kernel_rfl) (by kernel_rfl) (pv rfl) (by rw [← ei]; exact rv rfl) (by rw [IntKind.wrap_u64]; omega))
        (forall_cons (e_small (by omega) (pv rfl) (rd rfl)) (forall_cons (e_bs1 (x := 1) pvl (rd (by rw [← digs_one]; rfl))) forall_nil)))
    refine (run_mk hC hT 16 Tryz.f16 [op 0] (.val (rl false 2 3)) 60 Tryz.func16 rfl rfl rfl (by kernel_rfl) [.int .i64 i] ⟨_, _, rfl, (op_is rfl).2 rfl, rfl⟩).mono ?_
    rintro e w' ⟨v, rfl, hv, hb⟩
    exact ⟨v, rfl, rq_intcast (by simp [hi]) ((rl_is2 rfl rfl).1 hv), hb⟩

/-! Floor. -/
abbrev cl_floor (m k q : Nat) : List Cl := [clD (digs m), clD (digs k), clD (digs (m / k)), clD (digs (m % k)), clV (ii ((digs (m % k)).length : Int)), clD (digs 1), clD (digs q), clV (ii ((digs q).length : Int))]
noncomputable abbrev C_floor (m k q : Nat) (w : World) : Ctx := mkC [1, 1, 1, 1, 1, 1, 1, 1] [false, false, false, false, true, false, false, true] [33] 33 (cl_floor m k q) w
def t_floor (b e : Bool) (q : Nat) : List Ent := [⟨.call 100, [op 0, op 1], .tup [op q, op 3]⟩, ⟨.blt .len [31] 3, [op 3], .val (op 4)⟩, ⟨.bin .gtr 3, [op 4, vp (ii 0)], .val (vp (.bool b))⟩,
  ⟨.bs 31 1, [vp (ii 1)], .val (op 5)⟩, ⟨.call 94, [op 2, op 5], .val (op 6)⟩, ⟨.blt .len [31] 3, [op 6], .val (op 7)⟩, ⟨.bin .gtr 3, [op 7, vp (ii 0)], .val (vp (.bool e))⟩]
theorem floor_T (m k q : Nat) (w : World) (hk : 0 < k) (h1 : (digs m).length < 1000000) (h2 : (digs k).length < 1000000) (b e : Bool) (c : Nat) (hb : decide (m % k ≠ 0) = b) (he : decide (q ≠ 0) = e) (hc : (c = 2 ∧ q = m / k + 1) ∨ (c = 6 ∧ q = m / k)) :
    ∀ t ∈ (match c with | 2 => t_floor b e 2 | _ => (t_floor b e 6).eraseIdx 4), t.Valid (C_floor m k q w) := by
  have dl : ∀ n, (0 < (digs n).length) ↔ n ≠ 0 := fun n => digs_pos_len
  have e3 : V [1, 1, 1, 1, 1, 1, 1, 1] [false, false, false, false, true, false, false, true] [33] 33 (cl_floor m k q) w (.blt .len [31] 3) [op 3] (.val (op 4)) := e_len und_nat (pd rfl) (rv rfl)
  have e4 : V [1, 1, 1, 1, 1, 1, 1, 1] [false, false, false, false, true, false, false, true] [33] 33 (cl_floor m k q) w (.bin .gtr 3) [op 4, vp (ii 0)] (.val (vp (.bool b))) := e_gtr (pv rfl) pvl (by rw [← hb]; congr 1; apply propext; rw [← dl]; constructor <;> intro h <;> omega)
  have e5 : V [1, 1, 1, 1, 1, 1, 1, 1] [false, false, false, false, true, false, false, true] [33] 33 (cl_floor m k q) w (.bs 31 1) [vp (ii 1)] (.val (op 5)) := e_bs1 (x := 1) pvl (rd (by rw [← digs_one]; rfl))
  have e7 : V [1, 1, 1, 1, 1, 1, 1, 1] [false, false, false, false, true, false, false, true] [33] 33 (cl_floor m k q) w (.blt .len [31] 3) [op 6] (.val (op 7)) := e_len und_nat (pd rfl) (rv rfl)
  have e8 : V [1, 1, 1, 1, 1, 1, 1, 1] [false, false, false, false, true, false, false, true] [33] 33 (cl_floor m k q) w (.bin .gtr 3) [op 7, vp (ii 0)] (.val (vp (.bool e))) := e_gtr (pv rfl) pvl (by rw [← he]; congr 1; apply propext; rw [← dl]; constructor <;> intro h <;> omega)
  rcases hc with ⟨rfl, hq⟩ | ⟨rfl, hq⟩
  · have hq1 : (digs (m / k)).length < 1000000 := Nat.lt_of_le_of_lt (digs_mono (Nat.div_le_self m k)) h1
    exact forall_cons (e_divide (ds := digs m) (es := digs k) (pd rfl) (pd rfl) (dig_digs _) (dig_digs _) (digs_lt _) (by omega) (by omega) (by rw [nat_digs]; exact hk) (by rw [nat_digs, nat_digs]; rfl) (by rw [nat_digs, nat_digs]; rfl)) (forall_cons e3 (forall_cons e4 (forall_cons e5
      (forall_cons (e_sum (ds := digs (m / k)) (es := digs 1) (pd rfl) (pd rfl) (dig_digs _) (dig_digs _) (by omega) (by rw [digs_one]; decide) (rd (by rw [nat_digs, nat_digs, ← hq]; rfl))) (forall_cons e7 (forall_cons e8 forall_nil))))))
  · exact forall_cons (e_divide (ds := digs m) (es := digs k) (pd rfl) (pd rfl) (dig_digs _) (dig_digs _) (digs_lt _) (by omega) (by omega) (by rw [nat_digs]; exact hk) (by rw [nat_digs, nat_digs, ← hq]; rfl) (by rw [nat_digs, nat_digs]; rfl)) (forall_cons e3 (forall_cons e4 (forall_cons e5
      (forall_cons e7 (forall_cons e8 forall_nil)))))
theorem floor_C (m k q : Nat) (w : World) : (C_floor m k q w).Ok := mkC_ok (oks_cons (clD_ok ratT _) (oks_cons (clD_ok ratT _) (oks_cons (clD_ok ratT _) (oks_cons (clD_ok ratT _) (oks_cons (clVi_ok _) (oks_cons (clD_ok ratT _) (oks_cons (clD_ok ratT _) (oks_cons (clVi_ok _) oks_nil)))))))) rfl rfl
theorem neg_dec {q : Nat} (h : 0 < q) : true = decide (-((q : Nat) : Int) < 0) := (decide_eq_true (by omega)).symm
theorem pos_dec (q : Nat) : false = decide (((q : Nat) : Int) < 0) := (decide_eq_false (by omega)).symm
theorem rfloor_q (x : Value) (r : Rat) (k : Nat) (w : World) (hx : RQ w x r) (z : Siz r k) (hk : k ≤ 100000) : Calls Tryz.prog 42 #[x] w (RNew w ((r.floor : Int) : Rat)) := by
  have l1 := digs_siz z.1
  have l2 := digs_siz z.2
  have hd := r.den_pos
  have hfl := floor_cut r
  have hx : RatP w x (decide (r.num < 0)) r.num.natAbs r.den := hx
  by_cases hn : r.num < 0
  · rw [decide_eq_true hn] at hx
    have hc : cutI r = -((r.num.natAbs / r.den : Nat) : Int) := by unfold cutI; rw [if_pos hn]
    by_cases hm : r.num.natAbs % r.den = 0
    · have hq : r.num.natAbs / r.den ≠ 0 := by
        intro h
        have := Nat.div_add_mod r.num.natAbs r.den
        rw [h, hm] at this
        omega
      have hT := floor_T r.num.natAbs r.den (r.num.natAbs / r.den) w hd (by omega) (by omega) false true 6 (by simp [hm]) (by simp [hq]) (.inr ⟨rfl, rfl⟩)
      refine (run_mk (floor_C _ _ _ _) hT 42 Tryz.f42 [rl true 0 1] (.val (rl true 6 5)) 60 Tryz.func42 rfl rfl rfl (by kernel_rfl) [x] ⟨_, _, rfl, (rl_is2 rfl rfl).2 hx, rfl⟩).mono ?_
      rintro e w' ⟨v, rfl, hv, hb⟩
      have e1 : r.floor = -((r.num.natAbs / r.den : Nat) : Int) := by rw [hfl, if_neg (by simp [hm]), hc]
      refine ⟨v, rfl, rq_intcast (s := true) (by rw [e1]; exact neg_dec (Nat.pos_of_ne_zero hq)) ?_, hb⟩
      have hv := (rl_is2 (a := r.num.natAbs / r.den) (b := 1) rfl rfl).1 hv
      rw [e1, Int.natAbs_neg, Int.natAbs_natCast]
      exact hv
    · have hT := floor_T r.num.natAbs r.den (r.num.natAbs / r.den + 1) w hd (by omega) (by omega) true true 2 (by simp [hm]) (by simp) (.inl ⟨rfl, rfl⟩)
      refine (run_mk (floor_C _ _ _ _) hT 42 Tryz.f42 [rl true 0 1] (.val (rl true 6 5)) 60 Tryz.func42 rfl rfl rfl (by kernel_rfl) [x] ⟨_, _, rfl, (rl_is2 rfl rfl).2 hx, rfl⟩).mono ?_
      rintro e w' ⟨v, rfl, hv, hb⟩
      have e1 : r.floor = -((r.num.natAbs / r.den + 1 : Nat) : Int) := by rw [hfl, if_pos ⟨hn, hm⟩, hc]; omega
      refine ⟨v, rfl, rq_intcast (s := true) (by rw [e1]; exact neg_dec (Nat.succ_pos _)) ?_, hb⟩
      have hv := (rl_is2 (a := r.num.natAbs / r.den + 1) (b := 1) rfl rfl).1 hv
      rw [e1, Int.natAbs_neg, Int.natAbs_natCast]
      exact hv
  · rw [decide_eq_false hn] at hx
    have hc : cutI r = ((r.num.natAbs / r.den : Nat) : Int) := by unfold cutI; rw [if_neg hn]
    have hT := floor_T r.num.natAbs r.den (r.num.natAbs / r.den) w hd (by omega) (by omega) _ _ 6 rfl rfl (.inr ⟨rfl, rfl⟩)
    have e1 : r.floor = ((r.num.natAbs / r.den : Nat) : Int) := by rw [hfl, if_neg (by simp [hn]), hc]
    have key : ∀ b e, (∀ t ∈ (t_floor b e 6).eraseIdx 4, t.Valid (C_floor r.num.natAbs r.den (r.num.natAbs / r.den) w)) → Calls Tryz.prog 42 #[x] w (RNew w ((r.floor : Int) : Rat)) := by
      intro b e hT
      have hTT : ∀ t ∈ ((t_floor true true 6).take 1 ++ [⟨.bs 31 1, [vp (ii 1)], .val (op 5)⟩] : List Ent), t.Valid (C_floor r.num.natAbs r.den (r.num.natAbs / r.den) w) := by
        intro t ht
        apply hT
        simp [t_floor] at ht ⊢
        rcases ht with rfl | rfl <;> simp
      refine (run_mk (floor_C _ _ _ _) hTT 42 Tryz.f42 [rl false 0 1] (.val (rl false 6 5)) 60 Tryz.func42 rfl rfl rfl (by kernel_rfl) [x] ⟨_, _, rfl, (rl_is2 rfl rfl).2 hx, rfl⟩).mono ?_
      rintro e w' ⟨v, rfl, hv, hb⟩
      refine ⟨v, rfl, rq_intcast (s := false) (by rw [e1]; exact pos_dec _) ?_, hb⟩
      have hv := (rl_is2 (a := r.num.natAbs / r.den) (b := 1) rfl rfl).1 hv
      rw [e1, Int.natAbs_natCast]
      exact hv
    exact key _ _ hT
section
variable {csz : List Nat} {numc : List Bool} {okT : List Nat} {nt : Nat} {cl : List Cl} {w0 : World} {w : World} {v z : Value} {p1 p2 p3 p4 : Pat} {res : RPat} {c d c1 c2 c3 c4 c5 c6 : Nat} {r s t r1 r2 r3 r4 : Rat} {k k1 k2 k3 k4 k5 k6 : Nat}
theorem e_rfloor (h1 : PR csz numc okT nt cl w0 p1 r k1) (h2 : cl[c2]? = some (clR ((r.floor : Int) : Rat) k2)) (hk0 : Nat.ble 1 k1 = true) (hk : fitr (k1 + 2) k2 = true) : V csz numc okT nt cl w0 (.call 42) [p1] (.val (rq c2)) :=
  ent_rr (enters_of Tryz.func42 (by kernel_rfl) rfl) h1 h2 (fun z => (z.floor (Nat.le_of_ble_eq_true hk0)).le (fitr_le hk).1) (fun W v q z => rfloor_q v r k1 W q z (by have := fitr_le hk; omega))
end
theorem rceil_q (x : Value) (r : Rat) (k : Nat) (w : World) (hx : RQ w x r) (z : Siz r k) (hk1 : 1 ≤ k) (hk : k ≤ 90000) : Calls Tryz.prog 44 #[x] w (RNew w ((r.ceil : Int) : Rat)) := by
  have hC : (mkC [3, 3, 3, 3] [true, true, true, true] [33] 7 [clR r k, clR (-r) k, clR (((-r).floor : Int) : Rat) (k + 2), clR (-(((-r).floor : Int) : Rat)) (k + 2)] w).Ok := mkC_ok (oks_cons (clR_ok ratT _ _) (oks_cons (clR_ok ratT _ _) (oks_cons (clR_ok ratT _ _) (oks_cons (clR_ok ratT _ _) oks_nil)))) rfl rfl
  have hT : ∀ t ∈ ([⟨.call 38, [rq 0], .val (rq 1)⟩, ⟨.call 42, [rq 1], .val (rq 2)⟩, ⟨.call 38, [rq 2], .val (rq 3)⟩] : List Ent), t.Valid (mkC [3, 3, 3, 3] [true, true, true, true] [33] 7 [clR r k, clR (-r) k, clR (((-r).floor : Int) : Rat) (k + 2), clR (-(((-r).floor : Int) : Rat)) (k + 2)] w) :=
    forall_cons (e_rneg (pr rfl) rfl (fitr_mk (Nat.le_refl _) (by omega))) (forall_cons (e_rfloor (pr rfl) rfl (Nat.ble_eq_true_of_le hk1) (fitr_mk (Nat.le_refl _) (by omega))) (forall_cons (e_rneg (pr rfl) rfl (fitr_mk (Nat.le_refl _) (by omega))) forall_nil))
  refine (run_mk hC hT 44 Tryz.f44 [rq 0] (.val (rq 3)) 60 Tryz.func44 rfl rfl rfl (by kernel_rfl) [x] ⟨_, _, rfl, (rq_is rfl).2 ⟨hx, z⟩, rfl⟩).mono ?_
  rintro e w' ⟨v, rfl, hv, hb⟩
  refine ⟨v, rfl, ?_, hb⟩
  have := ((rq_is rfl).1 hv).1
  rw [ceil_neg, Rat.intCast_neg]
  exact this
theorem rfrac_q (i j : Int) (h1 : -9223372036854775808 ≤ i) (h2 : i ≤ 9223372036854775807) (h3 : -9223372036854775808 ≤ j) (h4 : j ≤ 9223372036854775807) (h0 : j ≠ 0) (w : World) : Calls Tryz.prog 20 #[.int .i64 i, .int .i64 j] w (RNew w ((i : Rat) / (j : Rat))) := by
  have hC : (mkC [1, 1, 3, 3, 3] [true, true, true, true, true] [33] 10 [clV (ii i), clV (ii j), clR (i : Rat) 1, clR (j : Rat) 1, clR ((i : Rat) / (j : Rat)) 2] w).Ok := mkC_ok (oks_cons (clVi_ok _) (oks_cons (clVi_ok _) (oks_cons (clR_ok ratT _ _) (oks_cons (clR_ok ratT _ _) (oks_cons (clR_ok ratT _ _) oks_nil))))) rfl rfl
  have hT : ∀ t ∈ ([⟨.call 16, [op 0], .val (rq 2)⟩, ⟨.call 16, [op 1], .val (rq 3)⟩, ⟨.call 36, [rq 2, rq 3], .val (rq 4)⟩] : List Ent), t.Valid (mkC [1, 1, 3, 3, 3] [true, true, true, true, true] [33] 10 [clV (ii i), clV (ii j), clR (i : Rat) 1, clR (j : Rat) 1, clR ((i : Rat) / (j : Rat)) 2] w) := by
    refine forall_cons ⟨enters_of Tryz.func16 (by kernel_rfl) rfl, fun w vs hb hvs => ?_⟩ (forall_cons ⟨enters_of Tryz.func16 (by kernel_rfl) rfl, fun w vs hb hvs => ?_⟩ (forall_cons (e_rdiv (by exact h0) (pr rfl) (pr rfl) rfl (by decide)) forall_nil))
    · obtain ⟨v1, _, rfl, g4, rfl⟩ := hvs
      obtain rfl := (op_is (x := ii i) rfl).1 g4
      refine (rint_q i h1 h2 w).mono ?_
      rintro e w' ⟨v, rfl, hv, hb'⟩
      exact ⟨v, rfl, (rq_is rfl).2 ⟨hv, siz_int i h1 h2⟩, hb'⟩
    · obtain ⟨v1, _, rfl, g4, rfl⟩ := hvs
      obtain rfl := (op_is (x := ii j) rfl).1 g4
      refine (rint_q j h3 h4 w).mono ?_
      rintro e w' ⟨v, rfl, hv, hb'⟩
      exact ⟨v, rfl, (rq_is rfl).2 ⟨hv, siz_int j h3 h4⟩, hb'⟩
  refine (run_mk hC hT 20 Tryz.f20 [op 0, op 1] (.val (rq 4)) 60 Tryz.func20 rfl rfl rfl (by kernel_rfl) [.int .i64 i, .int .i64 j] ⟨_, _, rfl, (op_is rfl).2 rfl, _, _, rfl, (op_is rfl).2 rfl, rfl⟩).mono ?_
  rintro e w' ⟨v, rfl, hv, hb⟩
  exact ⟨v, rfl, ((rq_is rfl).1 hv).1, hb⟩
section
variable {csz : List Nat} {numc : List Bool} {okT : List Nat} {nt : Nat} {cl : List Cl} {w0 : World} {w : World} {v z : Value} {p1 p2 p3 p4 : Pat} {res : RPat} {c d c1 c2 c3 c4 c5 c6 : Nat} {r s t r1 r2 r3 r4 : Rat} {k k1 k2 k3 k4 k5 k6 : Nat}
theorem e_rceil (h1 : PR csz numc okT nt cl w0 p1 r k1) (h2 : cl[c2]? = some (clR ((r.ceil : Int) : Rat) k2)) (hk0 : Nat.ble 1 k1 = true) (hk : fitr (k1 + 2) k2 = true) (hk' : fitr k2 90000 = true) : V csz numc okT nt cl w0 (.call 44) [p1] (.val (rq c2)) :=
  ent_rr (enters_of Tryz.func44 (by kernel_rfl) rfl) h1 h2 (fun z => (z.ceil (Nat.le_of_ble_eq_true hk0)).le (fitr_le hk).1) (fun W v q z => rceil_q v r k1 W q z (Nat.le_of_ble_eq_true hk0) (by have := fitr_le hk; have := fitr_le hk'; omega))
theorem e_rint {i : Int} (h1 : -9223372036854775808 ≤ i) (h2 : i ≤ 9223372036854775807) (h3 : cl[c3]? = some (clR (i : Rat) k3)) (hk : fitr 1 k3 = true) : V csz numc okT nt cl w0 (.call 16) [vp (ii i)] (.val (rq c3)) := by
  refine ⟨enters_of Tryz.func16 (by kernel_rfl) rfl, fun w vs hb hvs => ?_⟩
  obtain ⟨v1, _, rfl, g4, rfl⟩ := hvs
  obtain rfl := vp_is.1 g4
  refine (rint_q i h1 h2 w).mono ?_
  rintro e w' ⟨v, rfl, hv, hb'⟩
  exact ⟨v, rfl, (rq_is h3).2 ⟨hv, (siz_int i h1 h2).le (fitr_le hk).1⟩, hb'⟩
end
end Sym
end Go.Proofs.YtccabfblgjcboaaGreatDoor

/- The reference's Digits: the decimal digits of a number as a text. -/
namespace Go.Proofs.YtccabfblgjcboaaGreatDoor
open Go Go.RowKit Go.Proofs Lim
namespace Sym

/-! Texts. -/
section
variable {csz : List Nat} {numc : List Bool} {okT : List Nat} {nt : Nat} {cl : List Cl} {w0 : World} {w : World} {v z : Value} {p1 p2 p3 p4 : Pat} {res : RPat} {c d c1 c2 c3 c4 c5 c6 : Nat} {a b l : List UInt8}
theorem und_str : Tryz.prog.underlying 9 = some .string := by kernel_rfl
theorem e_cat (hl : a.length + b.length ≤ 4000000000000000000) (h1 : PV csz numc okT nt cl w0 p1 (str a)) (h2 : PV csz numc okT nt cl w0 p2 (str b)) (h3 : RV csz numc okT nt cl w0 res (str (a ++ b))) : V csz numc okT nt cl w0 (.bin .add 9) [p1, p2] res := by
  intro w ρ oo xs ho hb hvs
  obtain ⟨x, y, u, hop, rfl⟩ := hd_bin ho
  obtain ⟨v1, _, e1, h4, v2, _, e2, h5, e3⟩ := hvs
  obtain rfl := h1 _ _ h4
  obtain rfl := h2 _ _ h5
  subst e2
  simp only [List.map_cons, List.map_nil, List.cons.injEq] at e1
  obtain ⟨ea, eb, _⟩ := e1
  refine ⟨_, w, ?_, h3 w, Below.refl _ _⟩
  show (execOp ρ oo).run Tryz.prog w = _
  have hg : (eqGuard .add 9 x y (str a) (str b)).run Tryz.prog w = .ok () w := rfl
  have hr : (Go.binOp .add 9 (str a) (str b)).run Tryz.prog w = .ok (str (a ++ b)) w := by
    have hn : ¬ ((a.length + b.length : Nat) : Int) > IntKind.i64.max := by
      show ¬ ((a.length + b.length : Nat) : Int) > 9223372036854775807
      omega
    have e : (⟨a.toArray⟩ : ByteArray) ++ ⟨b.toArray⟩ = ⟨(a ++ b).toArray⟩ := bapp a b
    show (Op.stringOp .add ⟨a.toArray⟩ ⟨b.toArray⟩).run Tryz.prog w = _
    unfold Op.stringOp
    have hs : ((((⟨a.toArray⟩ : ByteArray).size + (⟨b.toArray⟩ : ByteArray).size : Nat)) : Int) = ((a.length + b.length : Nat) : Int) := rfl
    simp only [hs, if_neg hn, e]
    rfl
  simp only [execOp, hop, ea, eb, Sem.run_bind, hg, hr, Result.andThen_ok]
  rfl
/-- One byte as a text. -/
theorem e_chr {x : Nat} {u : UInt8} (hu : ((u.toNat : Nat) : Int) = (x : Int)) (h1 : ∀ w vs, GrpsAre (mkC csz numc okT nt cl w0) w [.cls c 1] vs → vs = [.int .u8 (x : Int)]) (h3 : RV csz numc okT nt cl w0 res (str [u])) : V csz numc okT nt cl w0 (.cv 100 9) [.slc 5 1 [.cls c 1]] res := by
  intro w ρ oo xs ho hb hvs
  obtain ⟨y, hop, rfl⟩ := hd_cv ho
  obtain ⟨v1, _, e1, ⟨k, vs, rfl, hk, hg⟩, e2⟩ := hvs
  subst e2
  simp only [List.map_cons, List.map_nil, List.cons.injEq] at e1
  obtain ⟨ea, _⟩ := e1
  obtain rfl := h1 _ _ hg
  refine ⟨_, w, ?_, h3 w, Below.refl _ _⟩
  show (execOp ρ oo).run Tryz.prog w = _
  have hr := run_convert_bytes_back (P := Tryz.prog) w 100 9 5 ⟨k, 0, none⟩ 1 [u] (by kernel_rfl) (by kernel_rfl) (by kernel_rfl) (fun j hj => by
    have hj : j < 1 := hj
    obtain rfl : j = 0 := by omega
    have : w.cell? ⟨k, 0, none⟩ = some (.int .u8 (x : Int)) := by simp [World.cell?, hk]
    rw [show (⟨k, 0, none⟩ : Addr).add 0 = ⟨k, 0, none⟩ from addr_add k 0 0, this]
    simp [hu])
  have hr : (convert 100 9 (.slice (some ⟨k, 0, none⟩) 1 1)).run Tryz.prog w = .ok (.string ⟨#[u]⟩) w := hr
  simp only [execOp, hop, ea, Sem.run_bind, hr, Result.andThen_ok]
  rfl
end
theorem grp1 {csz : List Nat} {numc : List Bool} {okT : List Nat} {nt : Nat} {cl : List Cl} {w0 w : World} {c : Nat} {x : Value} (h : cl[c]? = some (clW x)) : ∀ w vs, GrpsAre (mkC csz numc okT nt cl w0) w [.cls c 1] vs → vs = [x] := by
  rintro w vs ⟨xs, ys, rfl, ⟨f, hE, rfl⟩, hy⟩
  rw [show ys = [] from hy]
  simp only [mkC, h] at hE
  have hE : f 0 = x := hE
  simp [List.range_succ, hE]

/-! The upper digits. -/
theorem digs_drop : ∀ (j n : Nat), (digs n).drop j = digs (n / 10000 ^ j)
  | 0, n => by simp
  | j + 1, n => by
    by_cases h : n = 0
    · subst h
      rw [digs_zero, Nat.zero_div, digs_zero]; rfl
    · rw [digs_pos h, List.drop_succ_cons, digs_drop j, Nat.div_div_eq_div_mul, Nat.pow_succ, Nat.mul_comm]
theorem nat_drop_pos {n j : Nat} (h : j < (digs n).length) : 0 < nat ((digs n).drop j) := by
  rw [digs_drop, nat_digs]
  have : 0 < ((digs n).drop j).length := by rw [List.length_drop]; omega
  rw [digs_drop] at this
  exact Nat.pos_of_ne_zero (digs_pos_len.1 this)
/-- The text of digits, the last one first. -/
def sof (pre : List Nat) : List UInt8 := (pre.map dbyte).reverse
theorem sof_snoc (pre : List Nat) (d : Nat) : sof (pre ++ [d]) = [dbyte d] ++ sof pre := by unfold sof; simp
theorem sof_len (pre : List Nat) : (sof pre).length = pre.length := by unfold sof; simp

abbrev vl_dig (x : Value) (ds : List Nat) (i d k : Nat) (s : List UInt8) : List Value := [x, ii (i : Int), ii (d : Int), ii (k : Int), str s, ii (ds.length : Int), ii ((ds.length : Int) - 1), ptrAt x i, ii ((ds.getD i 0 : Nat) : Int), ii ((d % 10 : Nat) : Int), ii ((48 + d % 10 : Nat) : Int), .int .u8 ((48 + d % 10 : Nat) : Int), str [dbyte (d % 10)], str ([dbyte (d % 10)] ++ s), ii ((d / 10 : Nat) : Int), ii ((k + 1 : Nat) : Int), ii ((i + 1 : Nat) : Int)]
theorem dig_one {x : Value} (hx : x.oneCell' = true) (ds : List Nat) (i d k : Nat) (s : List UInt8) : ∀ v ∈ vl_dig x ds i d k s, v.oneCell' = true :=
  one_cons hx (one_cons rfl (one_cons rfl (one_cons rfl (one_cons rfl (one_cons rfl (one_cons rfl (one_cons (ptrAt_one _ _) (one_cons rfl (one_cons rfl (one_cons rfl (one_cons rfl (one_cons rfl (one_cons rfl (one_cons rfl (one_cons rfl (one_cons rfl one_nil))))))))))))))))
def t_digL (b : Bool) : List Ent := [⟨.blt .len [31] 3, [op 0], .val (op 5)⟩, ⟨.bin .lss 3, [op 1, op 5], .val (vp (.bool b))⟩, ⟨.bin .add 3, [op 1, vp (ii 1)], .val (op 16)⟩]
theorem dig_L {x : Value} {ds : List Nat} {i d k : Nat} {s : List UInt8} {w : World} (hx : Dg w x ds) (hi : i < 1000000000) {b : Bool} (h : decide (i < ds.length) = b) : ∀ t ∈ t_digL b, t.Valid (CV 46 (vl_dig x ds i d k s) w) :=
  forall_cons (e_len und_nat (pdW rfl hx) (rvW rfl)) (forall_cons (e_lss (pvW rfl) (pvW rfl) (by rw [← h]; simp)) (forall_cons (e_add (by omega) (pvW rfl) pvl (rvW rfl) (by omega)) forall_nil))
def t_digR : List Ent := [⟨.ix 31, [op 0, op 1], .val (op 7)⟩, ⟨.ld 3, [op 7], .val (op 8)⟩]
theorem dig_R {x : Value} {ds : List Nat} {i d k : Nat} {s : List UInt8} {w : World} (hx : Dg w x ds) (hi : i < ds.length) : ∀ t ∈ t_digR, t.Valid (CV 46 (vl_dig x ds i d k s) w) :=
  forall_cons (e_ixW und_nat elem_nat (pvW rfl) hx (pvW rfl) hi (rvW rfl)) (forall_cons (e_ldW (pvW rfl) hx hi (rvW rfl)) forall_nil)
def t_digG (b1 b2 b3 : Bool) : List Ent := [⟨.bin .lss 3, [op 3, vp (ii 4)], .val (vp (.bool b1))⟩, ⟨.blt .len [31] 3, [op 0], .val (op 5)⟩, ⟨.bin .sub 3, [op 5, vp (ii 1)], .val (op 6)⟩, ⟨.bin .lss 3, [op 1, op 6], .val (vp (.bool b2))⟩, ⟨.bin .gtr 3, [op 2, vp (ii 0)], .val (vp (.bool b3))⟩]
theorem dig_G {x : Value} {ds : List Nat} {i d k : Nat} {s : List UInt8} {w : World} (hx : Dg w x ds) (hl : ds.length < 1000000000) {b1 b2 b3 : Bool} (h1 : decide (k < 4) = b1) (h2 : decide (i + 1 < ds.length) = b2) (h3 : decide (0 < d) = b3) : ∀ t ∈ t_digG b1 b2 b3, t.Valid (CV 46 (vl_dig x ds i d k s) w) :=
  forall_cons (e_lss (pvW rfl) pvl (by rw [← h1]; congr 1; apply propext; omega)) (forall_cons (e_len und_nat (pdW rfl hx) (rvW rfl)) (forall_cons (e_sub rfl (pvW rfl) pvl (rvW rfl) (by omega)) (forall_cons (e_lss (pvW rfl) (pvW rfl) (by rw [← h2]; congr 1; apply propext; omega)) (forall_cons (e_gtr (pvW rfl) pvl (by rw [← h3]; congr 1; apply propext; omega)) forall_nil))))
def t_digB : List Ent := [⟨.bin .rem 3, [op 2, vp (ii 10)], .val (op 9)⟩, ⟨.bin .add 3, [vp (ii 48), op 9], .val (op 10)⟩, ⟨.cv 3 5, [op 10], .val (op 11)⟩, ⟨.cv 100 9, [.slc 5 1 [.cls 11 1]], .val (op 12)⟩, ⟨.bin .add 9, [op 12, op 4], .val (op 13)⟩,
  ⟨.bin .quo 3, [op 2, vp (ii 10)], .val (op 14)⟩, ⟨.bin .add 3, [op 3, vp (ii 1)], .val (op 15)⟩]
theorem dig_B {x : Value} {ds : List Nat} {i d k : Nat} {s : List UInt8} {w : World} (hd : d < 10000) (hk : k < 4) (hs : s.length < 4000000000) : ∀ t ∈ t_digB, t.Valid (CV 46 (vl_dig x ds i d k s) w) :=
  forall_cons (e_rem (k := .i64) (n := 10) (pvW rfl) pvl (rvW rfl) (by decide)) (forall_cons (e_add (by omega) pvl (pvW rfl) (rvW rfl) (by omega)) (forall_cons (e_cv (by kernel_rfl) (by kernel_rfl) (by kernel_rfl) (pvW rfl) (rvW rfl) (by show (((48 + d % 10 : Nat) : Int)) % 256 = _; omega))
    (forall_cons (e_chr (x := 48 + d % 10) (by rw [dbyte_toNat (by omega)]) (grp1 (w := w) rfl) (rvW rfl)) (forall_cons (e_cat (by simp; omega) (pvW rfl) (pvW rfl) (rvW rfl)) (forall_cons (e_quo (k := .i64) (n := 10) (pvW rfl) pvl (rvW rfl) (by decide) (by rw [IntKind.wrap_i64]; omega)) (forall_cons (e_add (by omega) (pvW rfl) pvl (rvW rfl) (by omega)) forall_nil))))))
noncomputable def b_dig : Code := bodyOf Tryz.f125
noncomputable def lo_dig : Code := inner (inner (seqR (seqL (seqR (seqR (seqR b_dig))))))
noncomputable def li_dig : Code := inner (inner (seqR (seqR (inner (seqL (seqR lo_dig))))))
theorem then_ret {K : Act → World → Prop} {Q : Exit → Act → World → Prop} {a : Act} {w : World} (h : Q .ret a w) : Exit.then K Q .ret a w := h
theorem calls_v1 {nt : Nat} {w : World} {f : FuncId} {fn : Func} {c : Code} (hf : Tryz.prog.funcs[f]? = some fn) (hb : fn.body = some c) (hnt : fn.ntmps = nt) (hlen : Nat.ble 1 nt = true) (x : Value) {Q : Ending → World → Prop}
    (h : ∀ a, St' nt [x] [(0, 0)] a → c.wp Tryz.prog (bodyPost Tryz.prog fn Q) a w) : Calls Tryz.prog f #[x] w Q :=
  calls_at (C := CV nt [x] w) (args := [op 0]) hf hb hnt (Nat.le_of_ble_eq_true hlen) (vs := [x]) ⟨_, _, rfl, (op_isW rfl).2 rfl, rfl⟩ (fun a hA => h a ⟨hA.defers, hA.size, (items_sl (is := [(0, 0)]) (rest := []) rfl hA.items).1⟩)
theorem digs10_step {R d p U : Nat} (hR : R = d + 10 * p * U) (h0 : R ≠ 0) : Lim.digs R = d % 10 :: Lim.digs (d / 10 + p * U) := by
  rw [Lim.digs_pos h0]
  have e : R = d + 10 * (p * U) := by rw [hR, Nat.mul_assoc]
  rw [show R % 10 = d % 10 by omega, show R / 10 = d / 10 + p * U by omega]
theorem digs10_len (n : Nat) : (Lim.digs n).length ≤ 4 * (digs n).length := by
  refine Lim.digs_len ?_
  have := nat_bound (digs_lt n)
  rw [nat_digs] at this
  rw [Nat.pow_mul]
  exact this

/-- The digits of one digit. -/
theorem dig_inner (x : Value) (n i : Nat) (hi : i < (digs n).length) (hl : (digs n).length < 100000000) (pre0 : List Nat) (h0 : Lim.digs n = pre0 ++ Lim.digs ((digs n).getD i 0 + 10000 * nat ((digs n).drop (i + 1)))) (a : Act) (w : World) (hx : Dg w x (digs n))
    (hs : St' 46 (vl_dig x (digs n) i ((digs n).getD i 0) 0 (sof pre0)) [(0, 0), (3, 4), (4, 1), (5, 2), (6, 3)] a) {Q : Exit → Act → World → Prop}
    (hQ : ∀ a' w' pre, Lim.digs n = pre ++ Lim.digs (nat ((digs n).drop (i + 1))) → St' 46 (vl_dig x (digs n) i 0 0 (sof pre)) [(0, 0), (3, 4), (4, 1)] a' → Below w.heap.size w w' → Q .normal a' w') : (Code.block 2 (.loop li_dig)).wp Tryz.prog Q a w := by
  have hx9 := hx.one
  have hU : i + 1 < (digs n).length → 0 < nat ((digs n).drop (i + 1)) := fun h => nat_drop_pos h
  have hU0 : ¬ i + 1 < (digs n).length → nat ((digs n).drop (i + 1)) = 0 := fun h => nat_drop_end (by omega)
  have hd0 := dig_digs n i
  have hl10 := digs10_len n
  generalize hds : digs n = ds at *
  generalize nat (ds.drop (i + 1)) = U at *
  generalize ds.getD i 0 = d0 at *
  refine while_is (Θ := Nat × Nat × List Nat) (fun θ a w1 => θ.1 ≤ 4 ∧ θ.2.1 < 10 ^ (4 - θ.1) ∧ Lim.digs n = θ.2.2 ++ Lim.digs (θ.2.1 + 10 ^ (4 - θ.1) * U) ∧ St' 46 (vl_dig x ds i θ.2.1 θ.1 (sof θ.2.2)) [(0, 0), (3, 4), (4, 1), (5, 2), (6, 3)] a ∧ Below w.heap.size w w1) (fun θ => 4 - θ.1) ?_ (0, d0, pre0) ⟨Nat.zero_le _, hd0, h0, hs, Below.refl _ _⟩
  rintro ⟨k, d, pre⟩ a w1 ⟨hk, hd, hdig, hs, hb⟩
  have hk : k ≤ 4 := hk
  have hd : d < 10 ^ (4 - k) := hd
  have hdig : Lim.digs n = pre ++ Lim.digs (d + 10 ^ (4 - k) * U) := hdig
  have hx1 := hx.below hb (Nat.le_refl _)
  have hd4 : d < 10000 := Nat.lt_of_lt_of_le hd (Nat.pow_le_pow_right (by decide) (by omega : 4 - k ≤ 4))
  have hpl : (sof pre).length < 4000000000 := by
    have := congrArg List.length hdig
    rw [List.length_append] at this
    rw [sof_len]
    omega
  have hl9 : ds.length < 1000000000 := by omega
  have one := dig_one hx9 ds i d k (sof pre)
  by_cases hgo : k < 4 ∧ (i + 1 < ds.length ∨ 0 < d)
  · have key : ∀ (Q' : Exit → Act → World → Prop), (∀ a' w', St' 46 (vl_dig x ds i d k (sof pre)) [(0, 0), (3, 4), (4, 1), (5, 2), (6, 3)] a' → Below w1.heap.size w1 w' → Q' .normal a' w') → (seqL li_dig).wp Tryz.prog Q' a w1 := by
      intro Q' hQ'
      cases h2 : decide (i + 1 < ds.length) <;> cases h3 : decide (0 < d)
      · exfalso
        rcases hgo.2 with h | h
        · exact of_decide_eq_false h2 h
        · exact of_decide_eq_false h3 h
      all_goals exact seg_v [(0, 0), (3, 4), (4, 1), (5, 2), (6, 3)] [(0, 0), (3, 4), (4, 1), (5, 2), (6, 3)] (n := 30) (x := .normal) one (dig_G hx1 hl9 (decide_eq_true hgo.1) h2 h3) hs (by kernel_rfl) rfl rfl hQ'
    refine wp_seq (key _ (fun a5 w5 hs hb5 => ?_))
    have hb := hb.trans (hb5.mono hb.size)
    refine wp_seq (wp_block (wp_seq (seg_v [(0, 0), (3, 4), (4, 1), (5, 2), (6, 3)] [(0, 0), (3, 13), (4, 1), (5, 2), (6, 3)] (n := 30) (x := .normal) one (dig_B hd4 hgo.1 hpl) hs (by kernel_rfl) rfl rfl (fun a6 w6 hs hb6 => ?_))))
    have hb := hb.trans (hb6.mono hb.size)
    refine seg_v [(0, 0), (3, 13), (4, 1), (5, 2), (6, 3)] [(0, 0), (3, 13), (4, 1), (5, 14), (6, 3)] (n := 30) (x := .normal) one (dig_B hd4 hgo.1 hpl) hs (by kernel_rfl) rfl rfl (fun a7 w7 hs hb7 => ?_)
    have hb := hb.trans (hb7.mono hb.size)
    show (seqR (seqR li_dig)).wp Tryz.prog _ _ _
    refine seg_v [(0, 0), (3, 13), (4, 1), (5, 14), (6, 3)] [(0, 0), (3, 13), (4, 1), (5, 14), (6, 15)] (n := 30) (x := .normal) one (dig_B hd4 hgo.1 hpl) hs (by kernel_rfl) rfl rfl (fun a8 w8 hs hb8 => ?_)
    have hb := hb.trans (hb8.mono hb.size)
    have hp : 10 ^ (4 - k) = 10 * 10 ^ (4 - (k + 1)) := by rw [show 4 - k = 4 - (k + 1) + 1 by omega, Nat.pow_succ, Nat.mul_comm]
    refine ⟨(k + 1, d / 10, pre ++ [d % 10]), ⟨hgo.1, ?_, ?_, ?_, hb⟩, ?_⟩
    · show d / 10 < 10 ^ (4 - (k + 1))
      rw [hp] at hd
      omega
    · show Lim.digs n = (pre ++ [d % 10]) ++ Lim.digs (d / 10 + 10 ^ (4 - (k + 1)) * U)
      have hne : d + 10 ^ (4 - k) * U ≠ 0 := by
        rcases hgo.2 with h | h
        · have h1 := hU h
          have h2 : 0 < 10 ^ (4 - k) := Nat.pow_pos (by decide)
          have := Nat.mul_pos h2 h1
          omega
        · omega
      rw [hdig, digs10_step (p := 10 ^ (4 - (k + 1))) (d := d) (U := U) (by rw [← hp]) hne, List.append_assoc]
      rfl
    · have : sof (pre ++ [d % 10]) = [dbyte (d % 10)] ++ sof pre := sof_snoc _ _
      show St' 46 (vl_dig x ds i (d / 10) (k + 1) (sof (pre ++ [d % 10]))) _ _
      rw [this]
      exact ⟨hs.defers, hs.size, hs.sl⟩
    · show 4 - (k + 1) < 4 - k
      omega
  · have key : ∀ (Q' : Exit → Act → World → Prop), (∀ a' w', St' 46 (vl_dig x ds i d k (sof pre)) [(0, 0), (3, 4), (4, 1)] a' → Below w1.heap.size w1 w' → Q' (.exit 2) a' w') → (seqL li_dig).wp Tryz.prog Q' a w1 := by
      intro Q' hQ'
      cases h1 : decide (k < 4) <;> cases h2 : decide (i + 1 < ds.length) <;> cases h3 : decide (0 < d)
      all_goals first
        | (exfalso; exact hgo ⟨of_decide_eq_true h1, .inl (of_decide_eq_true h2)⟩)
        | (exfalso; exact hgo ⟨of_decide_eq_true h1, .inr (of_decide_eq_true h3)⟩)
        | exact seg_v [(0, 0), (3, 4), (4, 1), (5, 2), (6, 3)] [(0, 0), (3, 4), (4, 1)] (n := 30) (x := .exit 2) one (dig_G hx1 hl9 h1 h2 h3) hs (by kernel_rfl) rfl rfl hQ'
    refine wp_seq (key _ (fun a5 w5 hs hb5 => ?_))
    refine hQ a5 w5 pre ?_ ⟨hs.defers, hs.size, hs.sl⟩ (hb.trans (hb5.mono hb.size))
    rw [hdig]
    congr 2
    rcases Nat.lt_or_ge k 4 with h4 | h4
    · have hd0 : d = 0 := by
        rcases Nat.eq_zero_or_pos d with h | h
        · exact h
        · exact absurd ⟨h4, .inr h⟩ hgo
      have hu : U = 0 := hU0 (fun h => hgo ⟨h4, .inl h⟩)
      rw [hd0, hu, Nat.mul_zero]
    · obtain rfl : k = 4 := by omega
      have : d < 1 := hd
      show d + 1 * U = U
      omega

theorem digits_ok (x : Value) (n : Nat) (w : World) (hx : Dg w x (digs n)) (hl : (digs n).length < 100000000) : Calls Tryz.prog 125 #[x] w (fun e w' => e = .returned (str (ntext n)) ∧ Below w.heap.size w w') := by
  have hx9 := hx.one
  refine calls_v1 (nt := 46) (f := 125) Tryz.func125 (c := .seq (seqL b_dig) (.seq (seqL (seqR b_dig)) (.seq (seqL (seqR (seqR b_dig))) (.seq (.seq (seqL (seqL (seqR (seqR (seqR b_dig))))) (.block 0 (.loop lo_dig))) (seqR (seqR (seqR (seqR b_dig)))))))) rfl rfl rfl x (fun a hs => ?_)
  have one1 : ∀ v ∈ [x], v.oneCell' = true := one_cons hx9 one_nil
  refine wp_seq (seg_v (T := []) [(0, 0)] [(0, 0)] (n := 30) (x := .normal) one1 forall_nil hs (by kernel_rfl) rfl rfl (fun a1 w1 hs hb => ?_))
  have hs : St' 46 [x, ii ((digs n).length : Int)] [(0, 0)] a1 := ⟨hs.defers, hs.size, hs.sl⟩
  have one2 : ∀ v ∈ [x, ii ((digs n).length : Int)], v.oneCell' = true := one_cons hx9 (one_cons rfl one_nil)
  have hT : ∀ b, decide ((digs n).length = 0) = b → ∀ t ∈ [(⟨.blt .len [31] 3, [op 0], .val (op 1)⟩ : Ent), ⟨.bin .eql 3, [op 1, vp (ii 0)], .val (vp (.bool b))⟩], t.Valid (CV 46 [x, ii ((digs n).length : Int)] w1) := fun b h =>
    forall_cons (e_len und_nat (pdW rfl (hx.below hb (Nat.le_refl _))) (rvW rfl)) (forall_cons (e_eql (pvW rfl) pvl (by rw [← h]; congr 1; apply propext; omega)) forall_nil)
  by_cases h0 : n = 0
  · have h00 : (digs n).length = 0 := by rw [h0, digs_zero]; rfl
    refine wp_seq (seg_vl [(0, 0)] [] [(2, str [48])] (n := 30) (x := .ret) one2 (hT true (decide_eq_true h00)) hs (by kernel_rfl) rfl rfl (fun a2 w2 hs hl2 hb2 => ?_))
    refine then_ret (ret_v rfl hs.defers hl2.1 ⟨?_, hb.trans (hb2.mono hb.size)⟩)
    rw [h0]
    rfl
  have hpos := digs_pos_len.2 h0
  refine wp_seq (seg_v [(0, 0)] [(0, 0)] (n := 30) (x := .normal) one2 (hT false (decide_eq_false (by omega))) hs (by kernel_rfl) rfl rfl (fun a2 w2 hs hb2 => ?_))
  have hb := hb.trans (hb2.mono hb.size)
  refine wp_seq (seg_vl (T := []) [(0, 0)] [(0, 0)] [(3, str [])] (n := 30) (x := .normal) one2 forall_nil hs (by kernel_rfl) rfl rfl (fun a3 w3 hs hl3 hb3 => ?_))
  have hb := hb.trans (hb3.mono hb.size)
  have hs : St' 46 [x, str []] [(0, 0), (3, 1)] a3 := ⟨hs.defers, hs.size, hs.sl.1, hl3.1, trivial⟩
  have one3 : ∀ v ∈ [x, str []], v.oneCell' = true := one_cons hx9 (one_cons rfl one_nil)
  refine wp_seq (wp_seq (seg_vl (T := []) [(0, 0), (3, 1)] [(0, 0), (3, 1)] [(4, ii 0)] (n := 30) (x := .normal) one3 forall_nil hs (by kernel_rfl) rfl rfl (fun a4 w4 hs hl4 hb4 => ?_)))
  have hb := hb.trans (hb4.mono hb.size)
  have hs : St' 46 (vl_dig x (digs n) 0 0 0 (sof [])) [(0, 0), (3, 4), (4, 1)] a4 := ⟨hs.defers, hs.size, hs.sl.1, hs.sl.2.1, hl4.1, trivial⟩
  refine while_is (Θ := Nat × List Nat) (fun θ a w1 => θ.1 ≤ (digs n).length ∧ Lim.digs n = θ.2 ++ Lim.digs (nat ((digs n).drop θ.1)) ∧ St' 46 (vl_dig x (digs n) θ.1 0 0 (sof θ.2)) [(0, 0), (3, 4), (4, 1)] a ∧ Below w.heap.size w w1) (fun θ => (digs n).length - θ.1) ?_ (0, []) ⟨Nat.zero_le _, by rw [List.drop_zero, nat_digs]; rfl, hs, hb⟩
  rintro ⟨i, pre⟩ a w1 ⟨hi, hdig, hs, hb⟩
  have hi : i ≤ (digs n).length := hi
  have hdig : Lim.digs n = pre ++ Lim.digs (nat ((digs n).drop i)) := hdig
  have hx1 := hx.below hb (Nat.le_refl _)
  by_cases hend : i < (digs n).length
  · refine wp_seq (seg_v [(0, 0), (3, 4), (4, 1)] [(0, 0), (3, 4), (4, 1)] (n := 30) (x := .normal) (dig_one hx9 (digs n) i 0 0 (sof pre)) (dig_L hx1 (by omega) (decide_eq_true hend)) hs (by kernel_rfl) rfl rfl (fun a5 w5 hs hb5 => ?_))
    have hb := hb.trans (hb5.mono hb.size)
    refine wp_seq (wp_block (wp_seq (seg_v [(0, 0), (3, 4), (4, 1)] [(0, 0), (3, 4), (4, 1), (5, 8)] (n := 30) (x := .normal) (dig_one hx9 (digs n) i 0 0 (sof pre)) (dig_R (hx.below hb (Nat.le_refl _)) hend) hs (by kernel_rfl) rfl rfl (fun a6 w6 hs hb6 => ?_))))
    have hb := hb.trans (hb6.mono hb.size)
    refine wp_seq (seg_vl (T := []) [(0, 0), (3, 4), (4, 1), (5, 8)] [(0, 0), (3, 4), (4, 1), (5, 8)] [(6, ii 0)] (n := 30) (x := .normal) (dig_one hx9 (digs n) i 0 0 (sof pre)) forall_nil hs (by kernel_rfl) rfl rfl (fun a7 w7 hs hl7 hb7 => ?_))
    have hb := hb.trans (hb7.mono hb.size)
    have hs : St' 46 (vl_dig x (digs n) i ((digs n).getD i 0) 0 (sof pre)) [(0, 0), (3, 4), (4, 1), (5, 2), (6, 3)] a7 := ⟨hs.defers, hs.size, hs.sl.1, hs.sl.2.1, hs.sl.2.2.1, hs.sl.2.2.2.1, hl7.1, trivial⟩
    refine dig_inner x n i hend hl pre (by rw [hdig, nat_drop]) a7 w7 (hx.below hb (Nat.le_refl _)) hs (fun a8 w8 pre' hdig' hs hb8 => ?_)
    have hb := hb.trans (hb8.mono hb.size)
    show (seqR (seqR lo_dig)).wp Tryz.prog _ _ _
    refine seg_v [(0, 0), (3, 4), (4, 1)] [(0, 0), (3, 4), (4, 16)] (n := 30) (x := .normal) (dig_one hx9 (digs n) i 0 0 (sof pre')) (dig_L (hx.below hb (Nat.le_refl _)) (by omega) (decide_eq_true hend)) hs (by kernel_rfl) rfl rfl (fun a9 w9 hs hb9 => ?_)
    have hb := hb.trans (hb9.mono hb.size)
    exact ⟨(i + 1, pre'), ⟨hend, hdig', ⟨hs.defers, hs.size, hs.sl⟩, hb⟩, by show (digs n).length - (i + 1) < (digs n).length - i; omega⟩
  · refine wp_seq (seg_v [(0, 0), (3, 4), (4, 1)] [(0, 0), (3, 4), (4, 1)] (n := 30) (x := .exit 0) (dig_one hx9 (digs n) i 0 0 (sof pre)) (dig_L hx1 (by omega) (decide_eq_false hend)) hs (by kernel_rfl) rfl rfl (fun a5 w5 hs hb5 => ?_))
    have hb := hb.trans (hb5.mono hb.size)
    refine seg_v (T := []) [(0, 0), (3, 4), (4, 1)] [(2, 4)] (n := 30) (x := .ret) (dig_one hx9 (digs n) i 0 0 (sof pre)) forall_nil hs (by kernel_rfl) rfl rfl (fun a6 w6 hs hb6 => ret_v rfl hs.defers hs.sl.1 ⟨?_, hb.trans (hb6.mono hb.size)⟩)
    rw [nat_drop_end (by omega), Lim.digs_zero, List.append_nil] at hdig
    show Ending.returned (str (sof pre)) = _
    unfold ntext sof
    rw [if_neg h0, hdig]
end Sym
end Go.Proofs.YtccabfblgjcboaaGreatDoor

/- The reference's Text. -/
namespace Go.Proofs.YtccabfblgjcboaaGreatDoor
open Go Go.RowKit Go.Proofs Lim
namespace Sym
section
variable {csz : List Nat} {numc : List Bool} {okT : List Nat} {nt : Nat} {cl : List Cl} {w0 : World} {w : World} {v z : Value} {p1 p2 p3 p4 : Pat} {res : RPat} {c d c1 c2 c3 c4 c5 c6 : Nat} {a b l : List UInt8}
theorem e_digits {n : Nat} (hl : (digs n).length < 100000000) (h1 : PD csz numc okT nt cl w0 p1 (digs n)) (h3 : RV csz numc okT nt cl w0 res (str (ntext n))) : V csz numc okT nt cl w0 (.call 125) [p1] res := by
  refine ⟨enters_of Tryz.func125 (by kernel_rfl) rfl, fun w vs hb hvs => ?_⟩
  obtain ⟨v1, _, rfl, h4, rfl⟩ := hvs
  refine (digits_ok v1 n w (h1 _ _ hb h4) hl).mono ?_
  rintro e w' ⟨rfl, hb⟩
  exact ⟨_, rfl, h3 w', hb⟩
end
/-- The text of a number by its parts. -/
def rtext (s : Bool) (m k : Nat) : List UInt8 := (if s then [45] else []) ++ ntext m ++ (if k = 1 then [] else 47 :: ntext k)
theorem rtext_q (r : Rat) : rtext (decide (r.num < 0)) r.num.natAbs r.den = qtext r := by
  unfold rtext qtext
  by_cases h : r.num < 0 <;> simp [h]
theorem ntext_len4 (n : Nat) : (ntext n).length ≤ 4 * (digs n).length + 1 := by
  have := digs10_len n
  unfold ntext
  split
  · simp
  · simp; omega
abbrev cl_text (m k : Nat) (a b : List UInt8) : List Cl := [clD (digs m), clD (digs k), clV (str (ntext m)), clV (str b), clD (digs 1), clV (str (a ++ [47])), clV (str (ntext k)), clV (str ((a ++ [47]) ++ ntext k))]
noncomputable abbrev C_text (m k : Nat) (a b : List UInt8) (w : World) : Ctx := mkC [1, 1, 1, 1, 1, 1, 1, 1] [false, false, true, true, false, true, true, true] [33] 23 (cl_text m k a b) w
theorem clVs_ok {okT : List Nat} {B : Nat} (a : List UInt8) : (clV (str a)).Ok okT B := clV_ok rfl
theorem text_C (m k : Nat) (a b : List UInt8) (w : World) : (C_text m k a b w).Ok := mkC_ok (oks_cons (clD_ok ratT _) (oks_cons (clD_ok ratT _) (oks_cons (clVs_ok _) (oks_cons (clVs_ok _) (oks_cons (clD_ok ratT _) (oks_cons (clVs_ok _) (oks_cons (clVs_ok _) (oks_cons (clVs_ok _) oks_nil)))))))) rfl rfl
def t_text (i : Int) (c : Nat) : List Ent := [⟨.call 125, [op 0], .val (op 2)⟩, ⟨.bin .add 9, [vp (str [45]), op 2], .val (op 3)⟩, ⟨.bs 31 1, [vp (ii 1)], .val (op 4)⟩, ⟨.call 89, [op 1, op 4], .val (vp (ii i))⟩,
  ⟨.bin .add 9, [op c, vp (str [47])], .val (op 5)⟩, ⟨.call 125, [op 1], .val (op 6)⟩, ⟨.bin .add 9, [op 5, op 6], .val (op 7)⟩]
theorem text_T (m k : Nat) (a : List UInt8) (w : World) (h1 : (digs m).length < 10000000) (h2 : (digs k).length < 10000000) (ha : a.length < 100000000) {i : Int} (hi : cmpN k 1 = i) {c : Nat} (hc : (cl_text m k a ([45] ++ ntext m))[c]? = some (clV (str a))) : ∀ t ∈ t_text i c, t.Valid (C_text m k a ([45] ++ ntext m) w) := by
  have l1 := ntext_len4 m
  have l2 := ntext_len4 k
  exact forall_cons (e_digits (by omega) (pd rfl) (rv rfl)) (forall_cons (e_cat (by simp; omega) pvl (pv rfl) (rv rfl)) (forall_cons (e_bs1 (x := 1) pvl (rd (by rw [← digs_one]; rfl))) (forall_cons (e_order (ds := digs k) (es := digs 1) (pd rfl) (pd rfl) (dig_digs _) (dig_digs _) (by rw [nat_digs, nat_digs, hi]; exact rvl))
    (forall_cons (e_cat (by simp; omega) (pv hc) pvl (rv rfl)) (forall_cons (e_digits (by omega) (pd rfl) (rv rfl)) (forall_cons (e_cat (by simp; omega) (pv rfl) (pv rfl) (rv rfl)) forall_nil))))))
theorem text_ok (s : Bool) (x : Value) (m k : Nat) (w : World) (hx : RatP w x s m k) (hk : 0 < k) (h1 : (digs m).length < 10000000) (h2 : (digs k).length < 10000000) : Calls Tryz.prog 83 #[x] w (Go.Proofs.YtccabfblgjcboaaGreatDoor.Val w (str (rtext s m k))) := by
  have l1 := ntext_len4 m
  have ci : k = 1 ∨ cmpN k 1 = 1 := by
    rcases Nat.lt_or_ge 1 k with h | h
    · right; unfold cmpN; rw [if_neg (by omega), if_pos (by omega)]
    · left; omega
  have c0 : cmpN 1 1 = 0 := rfl
  cases s with
  | false =>
    have hv : ∀ a, PatsAre (C_text m k a ([45] ++ ntext m) w) w [rl false 0 1] [x] := fun a => ⟨_, _, rfl, (rl_is2 rfl rfl).2 hx, rfl⟩
    rcases ci with rfl | hi
    · refine (run_mk (text_C _ _ _ _ _) (text_T m 1 (ntext m) w h1 h2 (by omega) c0 (c := 2) rfl) 83 Tryz.f83 [rl false 0 1] (.val (op 2)) 60 Tryz.func83 rfl rfl rfl (by kernel_rfl) [x] (hv _)).mono ?_
      rintro e w' ⟨v, rfl, hv, hb⟩
      rw [(op_is (x := str (ntext m)) rfl).1 hv]
      exact ⟨by simp [rtext], hb⟩
    · have hk1 : k ≠ 1 := by rintro rfl; rw [c0] at hi; cases hi
      refine (run_mk (text_C _ _ _ _ _) (text_T m k (ntext m) w h1 h2 (by omega) hi (c := 2) rfl) 83 Tryz.f83 [rl false 0 1] (.val (op 7)) 60 Tryz.func83 rfl rfl rfl (by kernel_rfl) [x] (hv _)).mono ?_
      rintro e w' ⟨v, rfl, hv, hb⟩
      rw [(op_is (x := str ((ntext m ++ [47]) ++ ntext k)) rfl).1 hv]
      exact ⟨by simp [rtext, hk1], hb⟩
  | true =>
    have hv : ∀ a, PatsAre (C_text m k a ([45] ++ ntext m) w) w [rl true 0 1] [x] := fun a => ⟨_, _, rfl, (rl_is2 rfl rfl).2 hx, rfl⟩
    rcases ci with rfl | hi
    · refine (run_mk (text_C _ _ _ _ _) (text_T m 1 ([45] ++ ntext m) w h1 h2 (by simp; omega) c0 (c := 3) rfl) 83 Tryz.f83 [rl true 0 1] (.val (op 3)) 60 Tryz.func83 rfl rfl rfl (by kernel_rfl) [x] (hv _)).mono ?_
      rintro e w' ⟨v, rfl, hv, hb⟩
      rw [(op_is (x := str ([45] ++ ntext m)) rfl).1 hv]
      exact ⟨by simp [rtext], hb⟩
    · have hk1 : k ≠ 1 := by rintro rfl; rw [c0] at hi; cases hi
      refine (run_mk (text_C _ _ _ _ _) (text_T m k ([45] ++ ntext m) w h1 h2 (by simp; omega) hi (c := 3) rfl) 83 Tryz.f83 [rl true 0 1] (.val (op 7)) 60 Tryz.func83 rfl rfl rfl (by kernel_rfl) [x] (hv _)).mono ?_
      rintro e w' ⟨v, rfl, hv, hb⟩
      rw [(op_is (x := str ((([45] ++ ntext m) ++ [47]) ++ ntext k)) rfl).1 hv]
      exact ⟨by simp [rtext, hk1], hb⟩
theorem rtext_ok (x : Value) (r : Rat) (k : Nat) (w : World) (hx : RQ w x r) (z : Siz r k) (hk : k ≤ 1000000) : Calls Tryz.prog 83 #[x] w (Go.Proofs.YtccabfblgjcboaaGreatDoor.Val w (str (qtext r))) := by
  have l1 := digs_siz z.1
  have l2 := digs_siz z.2
  rw [← rtext_q]
  exact text_ok _ x _ _ w hx r.den_pos (by omega) (by omega)
end Sym
end Go.Proofs.YtccabfblgjcboaaGreatDoor

/- The reference's Int64. -/
namespace Go.Proofs.YtccabfblgjcboaaGreatDoor
open Go Go.RowKit Go.Proofs Lim
namespace Sym
/-- The state of the loop. -/
def I64 (w0 : World) (s : Bool) (m k : Nat) (n i : Value) (a : Act) (w : World) : Prop := Below w0.heap.size w0 w ∧ a.defers = [] ∧ a.tmps.size = 50 ∧ ∃ b X Y, a.tmps[1]? = some (.pointer (some ⟨b, 0, none⟩)) ∧ w0.heap.size ≤ b ∧ w.heap[b]? = some (.cells #[.bool s, X, Y] 33 (0, 0)) ∧ Dg w X (digs m) ∧ Dg w Y (digs k) ∧ a.tmps[4]? = some n ∧ a.tmps[5]? = some i
section
variable {csz : List Nat} {numc : List Bool} {okT : List Nat} {cl : List Cl} {w0 : World} {w : World} {p4 p5 : Pat} {s : Bool} {m k : Nat} {n i : Value} {a : Act} {r : Rat} {c d : Nat}
theorem at_i64 (h0 : cl[0]? = some (clD (digs m))) (h1 : cl[1]? = some (clD (digs k))) (h : At (mkC csz numc okT 50 cl w0) [.box 1 33 [.lit (.bool s), .cls 0 1, .cls 1 1], .val 4 p4, .val 5 p5] a w) (h4 : ∀ w v, p4.is (mkC csz numc okT 50 cl w0) w v → v = n) (h5 : ∀ w v, p5.is (mkC csz numc okT 50 cl w0) w v → v = i) : I64 w0 s m k n i a w := by
  obtain ⟨b, vs, q1, q2, _, q3, ⟨xs, ys, rfl, rfl, xs2, ys2, rfl, ⟨f, hE, rfl⟩, xs3, ys3, rfl, ⟨g, hE', rfl⟩, e5⟩, ⟨v4, q4, q5⟩, ⟨v5, q6, q7⟩, _⟩ := h.items
  rw [show ys3 = [] from e5] at q3
  simp only [mkC, h0] at hE
  simp only [mkC, h1] at hE'
  rw [h4 _ _ q5] at q4
  rw [h5 _ _ q7] at q6
  refine ⟨h.below, h.defers, h.size, b, f 0, g 0, q1, q2, ?_, hE, hE', q4, q6⟩
  rw [q3]
  simp [List.range_succ]
theorem i64_at (h0 : cl[0]? = some (clD (digs m))) (h1 : cl[1]? = some (clD (digs k))) (h : I64 w0 s m k n i a w) (h4 : p4.is (mkC csz numc okT 50 cl w0) w n) (h5 : p5.is (mkC csz numc okT 50 cl w0) w i) : At (mkC csz numc okT 50 cl w0) [.box 1 33 [.lit (.bool s), .cls 0 1, .cls 1 1], .val 4 p4, .val 5 p5] a w := by
  obtain ⟨g1, g2, g3, b, X, Y, q1, q2, q3, dX, dY, q4, q5⟩ := h
  refine ⟨g1, g2, g3, b, [.bool s, X, Y], q1, q2, by simp, q3, ⟨[.bool s], [X, Y], rfl, rfl, [X], [Y], rfl, ⟨fun _ => X, ?_, rfl⟩, [Y], [], rfl, ⟨fun _ => Y, ?_, rfl⟩, rfl⟩, ⟨_, q4, h4⟩, ⟨_, q5, h5⟩, trivial⟩
  · simp only [mkC, h0]; exact dX
  · simp only [mkC, h1]; exact dY
theorem pr_rl {nt : Nat} (h0 : cl[c]? = some (clD (digs r.num.natAbs))) (h1 : cl[d]? = some (clD (digs r.den))) (hs : decide (r.num < 0) = s) (z : Siz r k) : PR csz numc okT nt cl w0 (rl s c d) r k := fun w v h => by
  have := (rl_is2 h0 h1).1 h
  rw [← hs] at this
  exact ⟨this, z⟩
end
theorem cmp_int1 {r : Rat} (hd : r.den = 1) (i : Int) : cmpQ r (i : Rat) = if r.num < i then -1 else if i < r.num then 1 else 0 := by
  rw [cmpQ_int, hd]
  show (if r.num * ((1 : Nat) : Int) < i * ((1 : Nat) : Int) then (-1 : Int) else if i * ((1 : Nat) : Int) < r.num * ((1 : Nat) : Int) then 1 else 0) = _
  simp
theorem cmpN_one {k : Nat} (h0 : 0 < k) (h : k ≠ 1) : cmpN k 1 = 1 := by unfold cmpN; rw [if_neg (by omega), if_pos (by omega)]
abbrev cl_i0 (m k : Nat) : List Cl := [clD (digs m), clD (digs k), clD (digs 1), clR ((-9223372036854775808 : Int) : Rat) 1, clR ((9223372036854775807 : Int) : Rat) 1, clV (ii ((digs m).length : Int)), clV (ii (idx (digs m).length))]
noncomputable abbrev C_i0 (m k : Nat) (w : World) : Ctx := mkC [1, 1, 1, 3, 3, 1, 1] [false, false, false, true, true, true, true] [33] 50 (cl_i0 m k) w
theorem i0_C (m k : Nat) (w : World) : (C_i0 m k w).Ok := mkC_ok (oks_cons (clD_ok ratT _) (oks_cons (clD_ok ratT _) (oks_cons (clD_ok ratT _) (oks_cons (clR_ok ratT _ _) (oks_cons (clR_ok ratT _ _) (oks_cons (clVi_ok _) (oks_cons (clVi_ok _) oks_nil))))))) rfl rfl
def t_i0 (s : Bool) (o c1 c2 : Int) : List Ent := [⟨.bs 31 1, [vp (ii 1)], .val (op 2)⟩, ⟨.call 89, [op 1, op 2], .val (vp (ii o))⟩, ⟨.call 16, [vp (ii (-9223372036854775808))], .val (rq 3)⟩, ⟨.call 32, [rl s 0 1, rq 3], .val (vp (.int .i64 c1))⟩,
  ⟨.call 16, [vp (ii 9223372036854775807)], .val (rq 4)⟩, ⟨.call 32, [rl s 0 1, rq 4], .val (vp (.int .i64 c2))⟩, ⟨.blt .len [31] 3, [op 0], .val (op 5)⟩, ⟨.bin .sub 3, [op 5, vp (ii 1)], .val (op 6)⟩]
theorem idx_sub (n : Nat) : (n : Int) - 1 = idx n := by
  cases n with
  | zero => rfl
  | succ n => show ((n + 1 : Nat) : Int) - 1 = (n : Int); omega
theorem i0_T (r : Rat) (k : Nat) (z : Siz r k) (hk : k ≤ 4000) (w : World) (s : Bool) (hs : decide (r.num < 0) = s) {o c1 c2 : Int} (ho : cmpN r.den 1 = o) (h1 : cmpQ r ((-9223372036854775808 : Int) : Rat) = c1) (h2 : cmpQ r ((9223372036854775807 : Int) : Rat) = c2) : ∀ t ∈ t_i0 s o c1 c2, t.Valid (C_i0 r.num.natAbs r.den w) := by
  have l1 := digs_siz z.1
  exact forall_cons (e_bs1 (x := 1) pvl (rd (by rw [← digs_one]; rfl))) (forall_cons (e_order (ds := digs r.den) (es := digs 1) (pd rfl) (pd rfl) (dig_digs _) (dig_digs _) (by rw [nat_digs, nat_digs, ho]; exact rvl))
    (forall_cons (e_rint (by decide) (by decide) rfl (by decide)) (forall_cons (e_rcmp (pr_rl rfl rfl hs z) (pr rfl) (fitr_mk (by omega) (by decide)) h1) (forall_cons (e_rint (by decide) (by decide) rfl (by decide)) (forall_cons (e_rcmp (pr_rl rfl rfl hs z) (pr rfl) (fitr_mk (by omega) (by decide)) h2)
      (forall_cons (e_len und_nat (pd rfl) (rv rfl)) (forall_cons (e_sub (idx_sub _) (pv rfl) pvl (rv rfl) (by rw [← idx_sub]; omega)) forall_nil)))))))
def N64 (s : Bool) (m j : Nat) : Int := sgn s (nat ((digs m).drop j))
theorem nat_drop_le (m j : Nat) : nat ((digs m).drop j) ≤ m := by
  rw [digs_drop, nat_digs]
  exact Nat.div_le_self _ _
abbrev cl_i1 (s : Bool) (m k j : Nat) : List Cl := [clD (digs m), clD (digs k), clV (ii (idx j)), clV (ii (N64 s m j)), clV (ii (N64 s m j * 10000)), clP ((digs m).getD (j - 1) 0), clV (ii (((digs m).getD (j - 1) 0 : Nat) : Int)), clV (ii (N64 s m (j - 1))), clV (ii (idx (j - 1)))]
noncomputable abbrev C_i1 (s : Bool) (m k j : Nat) (w : World) : Ctx := mkC [1, 1, 1, 1, 1, 1, 1, 1, 1] [false, false, true, true, true, true, true, true, true] [33] 50 (cl_i1 s m k j) w
theorem i1_C (s : Bool) (m k j : Nat) (w : World) : (C_i1 s m k j w).Ok := mkC_ok (oks_cons (clD_ok ratT _) (oks_cons (clD_ok ratT _) (oks_cons (clVi_ok _) (oks_cons (clVi_ok _) (oks_cons (clVi_ok _) (oks_cons (clP_ok ratT _) (oks_cons (clVi_ok _) (oks_cons (clVi_ok _) (oks_cons (clVi_ok _) oks_nil))))))))) rfl rfl
noncomputable def b_i64 : Code := bodyOf Tryz.f21
noncomputable def l_i64 : Code := inner (inner (seqR (seqL (seqR (seqR (seqR b_i64))))))

def t_i1_t (b : Bool) : List Ent := [⟨.bin .geq 3, [op 2, vp (ii 0)], .val (vp (.bool b))⟩, ⟨.bin .mul 2, [op 3, vp (ii 10000)], .val (op 4)⟩, ⟨.ix 31, [op 0, op 2], .val (op 5)⟩, ⟨.ld 3, [op 5], .val (op 6)⟩, ⟨.bin .sub 2, [op 4, op 6], .val (op 7)⟩, ⟨.bin .sub 3, [op 2, vp (ii 1)], .val (op 8)⟩]
theorem i1_t_T (m k j : Nat) (hj : j < (digs m).length) (hm : m ≤ 9223372036854775808) (w : World) : ∀ t ∈ t_i1_t true, t.Valid (C_i1 true m k (j + 1) w) := by
  have h1 := nat_drop_le m j
  have h2 := nat_drop (digs m) j
  have h3 : N64 true m (j + 1) = -((nat ((digs m).drop (j + 1)) : Nat) : Int) := rfl
  have h4 : N64 true m j = -((nat ((digs m).drop j) : Nat) : Int) := rfl
  have hll : (digs m).length < 1000000 := Nat.lt_of_le_of_lt (digs_len 5 m (by omega)) (by decide)
  have g0 : idx (j + 1) = (j : Int) := rfl
  exact forall_cons (e_geq (pv rfl) pvl (decide_eq_true (by rw [g0]; omega))) (forall_cons (e_mul rfl (pv rfl) pvl (rv rfl) (by rw [h3]; omega)) (forall_cons (e_ix und_nat elem_nat (pd rfl) (pv rfl) hj rfl) (forall_cons (e_ld rfl (rv rfl))
    (forall_cons (e_sub (u := N64 true m j) (by show N64 true m (j + 1) * 10000 - (((digs m).getD j 0 : Nat) : Int) = _; rw [h3, h4]; omega) (pv rfl) (pv rfl) (rv rfl) (by rw [h4]; omega)) (forall_cons (e_sub (idx_sub j) (pv rfl) pvl (rv rfl) (by rw [← idx_sub]; omega)) forall_nil)))))
theorem int64_t (x : Value) (r : Rat) (k : Nat) (w : World) (hx : RatP w x true r.num.natAbs r.den) (hs : decide (r.num < 0) = true) (z : Siz r k) (hk : k ≤ 4000) : Calls Tryz.prog 21 #[x] w (Go.Proofs.YtccabfblgjcboaaGreatDoor.Val w (.tuple #[.int .i64 (if isI64 r then r.num else 0), .bool (isI64 r)])) := by
  have hv : PatsAre (C_i0 r.num.natAbs r.den w) w [rl true 0 1] [x] := ⟨_, _, rfl, (rl_is2 rfl rfl).2 hx, rfl⟩
  have fail : ∀ {T : List Ent}, (∀ t ∈ T, t.Valid (C_i0 r.num.natAbs r.den w)) → isI64 r = false → runB ⟨Tryz.prog, [1, 1, 1, 3, 3, 1, 1], [false, false, false, true, true, true, true], [33], 50⟩ T 60 (bodyOf Tryz.f21) Tryz.f21.results.toList [rl true 0 1] (.tup [vp (ii 0), vp (.bool false)]) = true → Calls Tryz.prog 21 #[x] w (Go.Proofs.YtccabfblgjcboaaGreatDoor.Val w (.tuple #[.int .i64 (if isI64 r then r.num else 0), .bool (isI64 r)])) := by
    intro T hT h0 hrun
    refine (run_mk (i0_C _ _ _) hT 21 Tryz.f21 [rl true 0 1] (.tup [vp (ii 0), vp (.bool false)]) 60 Tryz.func21 rfl rfl rfl hrun [x] hv).mono ?_
    rintro e w' ⟨v, rfl, ⟨vs, ⟨v1, _, rfl, g1, v2, _, rfl, g2, rfl⟩, rfl⟩, hb⟩
    obtain rfl := vp_is.1 g1
    obtain rfl := vp_is.1 g2
    rw [h0]
    exact ⟨rfl, hb⟩
  by_cases hd : r.den = 1
  · have ho : cmpN r.den 1 = 0 := by rw [hd]; rfl
    have e1 := cmp_int1 hd (-9223372036854775808)
    have e2 := cmp_int1 hd 9223372036854775807
    by_cases g1 : r.num < -9223372036854775808
    · rw [if_pos g1] at e1
      rw [if_pos (by omega)] at e2
      exact fail (i0_T r k z hk w true hs ho e1 e2) (decide_eq_false (by omega)) (by kernel_rfl)
    by_cases g2 : 9223372036854775807 < r.num
    · rw [if_neg (by omega), if_pos (by omega)] at e1
      rw [if_neg (by omega), if_pos g2] at e2
      exact fail (i0_T r k z hk w true hs ho e1 e2) (decide_eq_false (by omega)) (by kernel_rfl)
    have hin : isI64 r = true := decide_eq_true ⟨hd, by omega, by omega⟩
    have hnum : sgn true r.num.natAbs = r.num := by rw [← hs]; exact sgn_self _
    have hm : r.num.natAbs ≤ 9223372036854775808 := by
      have h0 : sgn true r.num.natAbs = -((r.num.natAbs : Nat) : Int) := rfl
      omega
    refine calls_at (C := C_i0 r.num.natAbs r.den w) (f := 21) (args := [rl true 0 1]) Tryz.func21 (c := .seq (seqL b_i64) (.seq (seqL (seqR b_i64)) (.seq (seqL (seqR (seqR b_i64))) (.seq (.seq (seqL (seqL (seqR (seqR (seqR b_i64))))) (.block 0 (.loop l_i64))) (seqR (seqR (seqR (seqR b_i64)))))))) rfl rfl (Nat.le_of_ble_eq_true rfl) (vs := [x]) hv (fun a hA => ?_)
    refine wp_seq (seg_is (i0_C _ _ _) (T := []) forall_nil (x := .normal) (n := 30) (post := [.box 1 33 [.lit (.bool true), .cls 0 1, .cls 1 1]]) (by kernel_rfl) hA (fun a1 w1 hA => ?_))
    have cond : ∀ {Q' : Exit → Act → World → Prop}, (∀ a' w', At (C_i0 r.num.natAbs r.den w) [.box 1 33 [.lit (.bool true), .cls 0 1, .cls 1 1]] a' w' → Q' .normal a' w') → (seqL (seqR b_i64)).wp Tryz.prog Q' a1 w1 := by
      intro Q' hQ
      rcases cmpQ_cases r ((-9223372036854775808 : Int) : Rat) with ⟨q1, _⟩ | ⟨q1, _⟩ | ⟨q1, _⟩
      · rw [if_neg g1] at e1
        rw [e1] at q1
        split at q1 <;> cases q1
      all_goals
        rcases cmpQ_cases r ((9223372036854775807 : Int) : Rat) with ⟨q2, _⟩ | ⟨q2, _⟩ | ⟨q2, _⟩
        · exact seg_is (i0_C _ _ _) (i0_T r k z hk w true hs ho q1 q2) (x := .normal) (n := 30) (by kernel_rfl) hA hQ
        · exact seg_is (i0_C _ _ _) (i0_T r k z hk w true hs ho q1 q2) (x := .normal) (n := 30) (by kernel_rfl) hA hQ
        · rw [if_neg g2] at e2
          rw [e2] at q2
          split at q2 <;> cases q2
    refine wp_seq (cond (fun a2 w2 hA => ?_))
    refine wp_seq (seg_is (i0_C _ _ _) (T := []) forall_nil (x := .normal) (n := 30) (post := [.box 1 33 [.lit (.bool true), .cls 0 1, .cls 1 1], .val 4 (vp (ii 0))]) (by kernel_rfl) hA (fun a3 w3 hA => ?_))
    refine wp_seq (wp_seq (seg_is (i0_C _ _ _) (i0_T r k z hk w true hs ho rfl rfl) (x := .normal) (n := 30) (post := [.box 1 33 [.lit (.bool true), .cls 0 1, .cls 1 1], .val 4 (vp (ii 0)), .val 5 (op 6)]) (by kernel_rfl) hA (fun a4 w4 hA => ?_)))
    have h0 : N64 true r.num.natAbs (digs r.num.natAbs).length = 0 := by
      unfold N64
      rw [nat_drop_end (Nat.le_refl _)]
      rfl
    have hI := at_i64 (n := ii (N64 true r.num.natAbs (digs r.num.natAbs).length)) (i := ii (idx (digs r.num.natAbs).length)) rfl rfl hA (fun w v hv => by rw [h0]; exact vp_is.1 hv) (fun w v hv => (op_is rfl).1 hv)
    refine while_is (Θ := Nat) (fun j a w1 => j ≤ (digs r.num.natAbs).length ∧ I64 w true r.num.natAbs r.den (ii (N64 true r.num.natAbs j)) (ii (idx j)) a w1) id ?_ (digs r.num.natAbs).length ⟨Nat.le_refl _, hI⟩
    rintro j a5 w5 ⟨hj, hI⟩
    cases j with
    | zero =>
      have hT : ∀ t ∈ ([⟨.bin .geq 3, [op 2, vp (ii 0)], .val (vp (.bool false))⟩] : List Ent), t.Valid (C_i1 true r.num.natAbs r.den 0 w) := forall_cons (e_geq (pv rfl) pvl (decide_eq_false (by decide))) forall_nil
      have hA := i64_at (csz := [1, 1, 1, 1, 1, 1, 1, 1, 1]) (numc := [false, false, true, true, true, true, true, true, true]) (okT := [33]) (cl := cl_i1 true r.num.natAbs r.den 0) (p4 := op 3) (p5 := op 2) rfl rfl hI ((op_is rfl).2 rfl) ((op_is rfl).2 rfl)
      refine wp_seq (seg_is (i1_C _ _ _ _ _) hT (x := .exit 0) (n := 30) (post := [.val 4 (op 3)]) (by kernel_rfl) hA (fun a6 w6 hA => ?_))
      show (seqR (seqR (seqR (seqR b_i64)))).wp Tryz.prog _ a6 w6
      refine seg_is (i1_C _ _ _ _ _) (T := []) forall_nil (x := .ret) (n := 30) (post := [.val 2 (op 3), .val 3 (vp (.bool true))]) (by kernel_rfl) hA (fun a7 w7 hA => at_ret2 rfl hA (fun v u hv hu => ⟨?_, hA.below⟩))
      rw [(op_is rfl).1 hv, vp_is.1 hu, hin]
      have : N64 true r.num.natAbs 0 = r.num := by
        unfold N64
        rw [List.drop_zero, nat_digs]
        exact hnum
      rw [this]
      rfl
    | succ j =>
      have hA := i64_at (csz := [1, 1, 1, 1, 1, 1, 1, 1, 1]) (numc := [false, false, true, true, true, true, true, true, true]) (okT := [33]) (cl := cl_i1 true r.num.natAbs r.den (j + 1)) (p4 := op 3) (p5 := op 2) rfl rfl hI ((op_is rfl).2 rfl) ((op_is rfl).2 rfl)
      refine seg_is (i1_C _ _ _ _ _) (i1_t_T r.num.natAbs r.den j hj hm w) (x := .normal) (n := 30) (post := [.box 1 33 [.lit (.bool true), .cls 0 1, .cls 1 1], .val 4 (op 7), .val 5 (op 8)]) (by kernel_rfl) hA (fun a6 w6 hA => ⟨j, ⟨by omega, ?_⟩, by show j < j + 1; omega⟩)
      exact at_i64 rfl rfl hA (fun w v hv => (op_is rfl).1 hv) (fun w v hv => (op_is rfl).1 hv)
  · have ho := cmpN_one r.den_pos hd
    exact fail (T := (t_i0 true 1 0 0).take 2) (fun t ht => i0_T r k z hk w true hs ho rfl rfl t (by simp [t_i0] at ht ⊢; rcases ht with rfl | rfl <;> simp)) (decide_eq_false (fun h => hd h.1)) (by kernel_rfl)

def t_i1_f (b : Bool) : List Ent := [⟨.bin .geq 3, [op 2, vp (ii 0)], .val (vp (.bool b))⟩, ⟨.bin .mul 2, [op 3, vp (ii 10000)], .val (op 4)⟩, ⟨.ix 31, [op 0, op 2], .val (op 5)⟩, ⟨.ld 3, [op 5], .val (op 6)⟩, ⟨.bin .add 2, [op 4, op 6], .val (op 7)⟩, ⟨.bin .sub 3, [op 2, vp (ii 1)], .val (op 8)⟩]
theorem i1_f_T (m k j : Nat) (hj : j < (digs m).length) (hm : m ≤ 9223372036854775807) (w : World) : ∀ t ∈ t_i1_f true, t.Valid (C_i1 false m k (j + 1) w) := by
  have h1 := nat_drop_le m j
  have h2 := nat_drop (digs m) j
  have h3 : N64 false m (j + 1) = ((nat ((digs m).drop (j + 1)) : Nat) : Int) := rfl
  have h4 : N64 false m j = ((nat ((digs m).drop j) : Nat) : Int) := rfl
  have hll : (digs m).length < 1000000 := Nat.lt_of_le_of_lt (digs_len 5 m (by omega)) (by decide)
  have g0 : idx (j + 1) = (j : Int) := rfl
  exact forall_cons (e_geq (pv rfl) pvl (decide_eq_true (by rw [g0]; omega))) (forall_cons (e_mul rfl (pv rfl) pvl (rv rfl) (by rw [h3]; omega)) (forall_cons (e_ix und_nat elem_nat (pd rfl) (pv rfl) hj rfl) (forall_cons (e_ld rfl (rv rfl))
    (forall_cons (e_add (u := N64 false m j) (by show N64 false m (j + 1) * 10000 + (((digs m).getD j 0 : Nat) : Int) = _; rw [h3, h4]; omega) (pv rfl) (pv rfl) (rv rfl) (by rw [h4]; omega)) (forall_cons (e_sub (idx_sub j) (pv rfl) pvl (rv rfl) (by rw [← idx_sub]; omega)) forall_nil)))))
theorem int64_f (x : Value) (r : Rat) (k : Nat) (w : World) (hx : RatP w x false r.num.natAbs r.den) (hs : decide (r.num < 0) = false) (z : Siz r k) (hk : k ≤ 4000) : Calls Tryz.prog 21 #[x] w (Go.Proofs.YtccabfblgjcboaaGreatDoor.Val w (.tuple #[.int .i64 (if isI64 r then r.num else 0), .bool (isI64 r)])) := by
  have hv : PatsAre (C_i0 r.num.natAbs r.den w) w [rl false 0 1] [x] := ⟨_, _, rfl, (rl_is2 rfl rfl).2 hx, rfl⟩
  have fail : ∀ {T : List Ent}, (∀ t ∈ T, t.Valid (C_i0 r.num.natAbs r.den w)) → isI64 r = false → runB ⟨Tryz.prog, [1, 1, 1, 3, 3, 1, 1], [false, false, false, true, true, true, true], [33], 50⟩ T 60 (bodyOf Tryz.f21) Tryz.f21.results.toList [rl false 0 1] (.tup [vp (ii 0), vp (.bool false)]) = true → Calls Tryz.prog 21 #[x] w (Go.Proofs.YtccabfblgjcboaaGreatDoor.Val w (.tuple #[.int .i64 (if isI64 r then r.num else 0), .bool (isI64 r)])) := by
    intro T hT h0 hrun
    refine (run_mk (i0_C _ _ _) hT 21 Tryz.f21 [rl false 0 1] (.tup [vp (ii 0), vp (.bool false)]) 60 Tryz.func21 rfl rfl rfl hrun [x] hv).mono ?_
    rintro e w' ⟨v, rfl, ⟨vs, ⟨v1, _, rfl, g1, v2, _, rfl, g2, rfl⟩, rfl⟩, hb⟩
    obtain rfl := vp_is.1 g1
    obtain rfl := vp_is.1 g2
    rw [h0]
    exact ⟨rfl, hb⟩
  by_cases hd : r.den = 1
  · have ho : cmpN r.den 1 = 0 := by rw [hd]; rfl
    have e1 := cmp_int1 hd (-9223372036854775808)
    have e2 := cmp_int1 hd 9223372036854775807
    by_cases g1 : r.num < -9223372036854775808
    · rw [if_pos g1] at e1
      rw [if_pos (by omega)] at e2
      exact fail (i0_T r k z hk w false hs ho e1 e2) (decide_eq_false (by omega)) (by kernel_rfl)
    by_cases g2 : 9223372036854775807 < r.num
    · rw [if_neg (by omega), if_pos (by omega)] at e1
      rw [if_neg (by omega), if_pos g2] at e2
      exact fail (i0_T r k z hk w false hs ho e1 e2) (decide_eq_false (by omega)) (by kernel_rfl)
    have hin : isI64 r = true := decide_eq_true ⟨hd, by omega, by omega⟩
    have hnum : sgn false r.num.natAbs = r.num := by rw [← hs]; exact sgn_self _
    have hm : r.num.natAbs ≤ 9223372036854775807 := by
      have h0 : sgn false r.num.natAbs = ((r.num.natAbs : Nat) : Int) := rfl
      omega
    refine calls_at (C := C_i0 r.num.natAbs r.den w) (f := 21) (args := [rl false 0 1]) Tryz.func21 (c := .seq (seqL b_i64) (.seq (seqL (seqR b_i64)) (.seq (seqL (seqR (seqR b_i64))) (.seq (.seq (seqL (seqL (seqR (seqR (seqR b_i64))))) (.block 0 (.loop l_i64))) (seqR (seqR (seqR (seqR b_i64)))))))) rfl rfl (Nat.le_of_ble_eq_true rfl) (vs := [x]) hv (fun a hA => ?_)
    refine wp_seq (seg_is (i0_C _ _ _) (T := []) forall_nil (x := .normal) (n := 30) (post := [.box 1 33 [.lit (.bool false), .cls 0 1, .cls 1 1]]) (by kernel_rfl) hA (fun a1 w1 hA => ?_))
    have cond : ∀ {Q' : Exit → Act → World → Prop}, (∀ a' w', At (C_i0 r.num.natAbs r.den w) [.box 1 33 [.lit (.bool false), .cls 0 1, .cls 1 1]] a' w' → Q' .normal a' w') → (seqL (seqR b_i64)).wp Tryz.prog Q' a1 w1 := by
      intro Q' hQ
      rcases cmpQ_cases r ((-9223372036854775808 : Int) : Rat) with ⟨q1, _⟩ | ⟨q1, _⟩ | ⟨q1, _⟩
      · rw [if_neg g1] at e1
        rw [e1] at q1
        split at q1 <;> cases q1
      all_goals
        rcases cmpQ_cases r ((9223372036854775807 : Int) : Rat) with ⟨q2, _⟩ | ⟨q2, _⟩ | ⟨q2, _⟩
        · exact seg_is (i0_C _ _ _) (i0_T r k z hk w false hs ho q1 q2) (x := .normal) (n := 30) (by kernel_rfl) hA hQ
        · exact seg_is (i0_C _ _ _) (i0_T r k z hk w false hs ho q1 q2) (x := .normal) (n := 30) (by kernel_rfl) hA hQ
        · rw [if_neg g2] at e2
          rw [e2] at q2
          split at q2 <;> cases q2
    refine wp_seq (cond (fun a2 w2 hA => ?_))
    refine wp_seq (seg_is (i0_C _ _ _) (T := []) forall_nil (x := .normal) (n := 30) (post := [.box 1 33 [.lit (.bool false), .cls 0 1, .cls 1 1], .val 4 (vp (ii 0))]) (by kernel_rfl) hA (fun a3 w3 hA => ?_))
    refine wp_seq (wp_seq (seg_is (i0_C _ _ _) (i0_T r k z hk w false hs ho rfl rfl) (x := .normal) (n := 30) (post := [.box 1 33 [.lit (.bool false), .cls 0 1, .cls 1 1], .val 4 (vp (ii 0)), .val 5 (op 6)]) (by kernel_rfl) hA (fun a4 w4 hA => ?_)))
    have h0 : N64 false r.num.natAbs (digs r.num.natAbs).length = 0 := by
      unfold N64
      rw [nat_drop_end (Nat.le_refl _)]
      rfl
    have hI := at_i64 (n := ii (N64 false r.num.natAbs (digs r.num.natAbs).length)) (i := ii (idx (digs r.num.natAbs).length)) rfl rfl hA (fun w v hv => by rw [h0]; exact vp_is.1 hv) (fun w v hv => (op_is rfl).1 hv)
    refine while_is (Θ := Nat) (fun j a w1 => j ≤ (digs r.num.natAbs).length ∧ I64 w false r.num.natAbs r.den (ii (N64 false r.num.natAbs j)) (ii (idx j)) a w1) id ?_ (digs r.num.natAbs).length ⟨Nat.le_refl _, hI⟩
    rintro j a5 w5 ⟨hj, hI⟩
    cases j with
    | zero =>
      have hT : ∀ t ∈ ([⟨.bin .geq 3, [op 2, vp (ii 0)], .val (vp (.bool false))⟩] : List Ent), t.Valid (C_i1 false r.num.natAbs r.den 0 w) := forall_cons (e_geq (pv rfl) pvl (decide_eq_false (by decide))) forall_nil
      have hA := i64_at (csz := [1, 1, 1, 1, 1, 1, 1, 1, 1]) (numc := [false, false, true, true, true, true, true, true, true]) (okT := [33]) (cl := cl_i1 false r.num.natAbs r.den 0) (p4 := op 3) (p5 := op 2) rfl rfl hI ((op_is rfl).2 rfl) ((op_is rfl).2 rfl)
      refine wp_seq (seg_is (i1_C _ _ _ _ _) hT (x := .exit 0) (n := 30) (post := [.val 4 (op 3)]) (by kernel_rfl) hA (fun a6 w6 hA => ?_))
      show (seqR (seqR (seqR (seqR b_i64)))).wp Tryz.prog _ a6 w6
      refine seg_is (i1_C _ _ _ _ _) (T := []) forall_nil (x := .ret) (n := 30) (post := [.val 2 (op 3), .val 3 (vp (.bool true))]) (by kernel_rfl) hA (fun a7 w7 hA => at_ret2 rfl hA (fun v u hv hu => ⟨?_, hA.below⟩))
      rw [(op_is rfl).1 hv, vp_is.1 hu, hin]
      have : N64 false r.num.natAbs 0 = r.num := by
        unfold N64
        rw [List.drop_zero, nat_digs]
        exact hnum
      rw [this]
      rfl
    | succ j =>
      have hA := i64_at (csz := [1, 1, 1, 1, 1, 1, 1, 1, 1]) (numc := [false, false, true, true, true, true, true, true, true]) (okT := [33]) (cl := cl_i1 false r.num.natAbs r.den (j + 1)) (p4 := op 3) (p5 := op 2) rfl rfl hI ((op_is rfl).2 rfl) ((op_is rfl).2 rfl)
      refine seg_is (i1_C _ _ _ _ _) (i1_f_T r.num.natAbs r.den j hj hm w) (x := .normal) (n := 30) (post := [.box 1 33 [.lit (.bool false), .cls 0 1, .cls 1 1], .val 4 (op 7), .val 5 (op 8)]) (by kernel_rfl) hA (fun a6 w6 hA => ⟨j, ⟨by omega, ?_⟩, by show j < j + 1; omega⟩)
      exact at_i64 rfl rfl hA (fun w v hv => (op_is rfl).1 hv) (fun w v hv => (op_is rfl).1 hv)
  · have ho := cmpN_one r.den_pos hd
    exact fail (T := (t_i0 false 1 0 0).take 2) (fun t ht => i0_T r k z hk w false hs ho rfl rfl t (by simp [t_i0] at ht ⊢; rcases ht with rfl | rfl <;> simp)) (decide_eq_false (fun h => hd h.1)) (by kernel_rfl)

theorem rint64_q (x : Value) (r : Rat) (k : Nat) (w : World) (hx : RQ w x r) (z : Siz r k) (hk : k ≤ 4000) : Calls Tryz.prog 21 #[x] w (Go.Proofs.YtccabfblgjcboaaGreatDoor.Val w (.tuple #[.int .i64 (if isI64 r then r.num else 0), .bool (isI64 r)])) := by
  have hx : RatP w x _ _ _ := hx
  cases h : decide (r.num < 0) with
  | true => exact int64_t x r k w (h ▸ hx) h z hk
  | false => exact int64_f x r k w (h ▸ hx) h z hk
end Sym
end Go.Proofs.YtccabfblgjcboaaGreatDoor

/- A number and that of the document: whether they have the same text. -/
namespace Go.Proofs.YtccabfblgjcboaaGreatDoor
open Go Go.RowKit Go.Proofs Lim
theorem qtext_inj {r s : Rat} (h : qtext r = qtext s) : r = s := by
  have nd : ∀ {c : UInt8}, isDig c = true → c ≠ 45 ∧ c ≠ 47 := by
    intro c hc
    constructor <;> (rintro rfl; revert hc; decide)
  have hh : ∀ (n : Nat) (l : List UInt8), (ntext n ++ l).head? ≠ some 45 := by
    intro n l e
    cases hn : ntext n with
    | nil => exact ntext_ne n hn
    | cons c t =>
      rw [hn] at e
      have : c = 45 := by simpa using e
      exact (nd (ntext_dig n c (by rw [hn]; simp))).1 this
  have cut : ∀ (l m a b : List UInt8), (∀ c ∈ l, c ≠ 47) → (∀ c ∈ m, c ≠ 47) → (a = [] ∨ a.head? = some 47) → (b = [] ∨ b.head? = some 47) → l ++ a = m ++ b → l = m ∧ a = b := by
    intro l
    induction l with
    | nil =>
      intro m a b _ hm ha hb e
      cases m with
      | nil => exact ⟨rfl, e⟩
      | cons c m =>
        exfalso
        have e : a = c :: (m ++ b) := e
        rcases ha with rfl | ha
        · cases e
        · rw [e] at ha
          have : c = 47 := by simpa using ha
          exact hm c (by simp) this
    | cons c l ih =>
      intro m a b hl hm ha hb e
      cases m with
      | nil =>
        exfalso
        have e : c :: (l ++ a) = b := e
        rcases hb with rfl | hb
        · cases e
        · rw [← e] at hb
          have : c = 47 := by simpa using hb
          exact hl c (by simp) this
      | cons d m =>
        have e : c :: (l ++ a) = d :: (m ++ b) := e
        injection e with e1 e2
        obtain ⟨q1, q2⟩ := ih m a b (fun x hx => hl x (by simp [hx])) (fun x hx => hm x (by simp [hx])) ha hb e2
        exact ⟨by rw [e1, q1], q2⟩
  have tl : ∀ d : Nat, (if d = 1 then ([] : List UInt8) else 47 :: ntext d) = [] ∨ (if d = 1 then ([] : List UInt8) else 47 :: ntext d).head? = some 47 := by
    intro d
    split
    · exact .inl rfl
    · exact .inr rfl
  have key : ∀ (a b : Rat), ntext a.num.natAbs ++ (if a.den = 1 then [] else 47 :: ntext a.den) = ntext b.num.natAbs ++ (if b.den = 1 then [] else 47 :: ntext b.den) → a.num.natAbs = b.num.natAbs ∧ a.den = b.den := by
    intro a b e
    obtain ⟨e1, e2⟩ := cut _ _ _ _ (fun c hc => (nd (ntext_dig _ c hc)).2) (fun c hc => (nd (ntext_dig _ c hc)).2) (tl a.den) (tl b.den) e
    refine ⟨ntext_inj e1, ?_⟩
    split at e2 <;> split at e2
    · omega
    · cases e2
    · cases e2
    · injection e2 with _ e2
      exact ntext_inj e2
  unfold qtext at h
  rw [List.append_assoc, List.append_assoc] at h
  by_cases h1 : r.num < 0 <;> by_cases h2 : s.num < 0
  · rw [if_pos h1, if_pos h2] at h
    obtain ⟨q1, q2⟩ := key r s (List.append_cancel_left h)
    exact Rat.ext (by omega) q2
  · rw [if_pos h1, if_neg h2] at h
    exact absurd (congrArg List.head? h).symm (hh _ _)
  · rw [if_neg h1, if_pos h2] at h
    exact absurd (congrArg List.head? h) (hh _ _)
  · rw [if_neg h1, if_neg h2] at h
    obtain ⟨q1, q2⟩ := key r s h
    exact Rat.ext (by omega) q2
namespace Sym
section
variable {csz : List Nat} {numc : List Bool} {okT : List Nat} {nt : Nat} {cl : List Cl} {w0 : World} {w : World} {v z : Value} {p1 p2 p3 p4 : Pat} {res : RPat} {c d c1 c2 c3 c4 c5 c6 : Nat} {a b l : List UInt8} {r s : Rat} {k k1 k2 : Nat}
theorem e_eqs {e : Bool} (h1 : PV csz numc okT nt cl w0 p1 (str a)) (h2 : PV csz numc okT nt cl w0 p2 (str b)) (he : decide (a = b) = e) : V csz numc okT nt cl w0 (.bin .eql 9) [p1, p2] (.val (vp (.bool e))) := by
  intro w ρ oo xs ho hb hvs
  obtain ⟨x, y, u, hop, rfl⟩ := hd_bin ho
  obtain ⟨v1, _, e1, h4, v2, _, e2, h5, e3⟩ := hvs
  obtain rfl := h1 _ _ h4
  obtain rfl := h2 _ _ h5
  subst e2
  simp only [List.map_cons, List.map_nil, List.cons.injEq] at e1
  obtain ⟨ea, eb, _⟩ := e1
  refine ⟨_, w, ?_, vp_r _ _ _, Below.refl _ _⟩
  show (execOp ρ oo).run Tryz.prog w = _
  have hg : (eqGuard .eql 9 x y (str a) (str b)).run Tryz.prog w = .ok () w := rfl
  have hbe : (a == b) = e := by
    rw [← he]
    by_cases h : a = b
    · subst h; simp
    · simp [h]
  have hr : (Go.binOp .eql 9 (str a) (str b)).run Tryz.prog w = .ok (.bool e) w := by
    show (Op.stringOp .eql ⟨a.toArray⟩ ⟨b.toArray⟩).run Tryz.prog w = _
    unfold Op.stringOp
    simp only [ByteArray.toList_eq]
    show Result.ok (Value.bool (a == b)) w = _
    rw [hbe]
  simp only [execOp, hop, ea, eb, Sem.run_bind, hg, hr, Result.andThen_ok]
  rfl
theorem e_text (h1 : PQ csz numc okT nt cl w0 p1 r k) (hk : k ≤ 1000000) (h3 : RV csz numc okT nt cl w0 res (str (qtext r))) : V csz numc okT nt cl w0 (.call 14) [p1] res := by
  refine ⟨enters_of Tryz.func14 (by kernel_rfl) rfl, fun w vs hb hvs => ?_⟩
  obtain ⟨v1, _, rfl, h4, rfl⟩ := hvs
  have h4 := h1 _ _ h4
  refine (text_q v1 r k w h4.1 h4.2 (by omega)).mono ?_
  rintro e w' ⟨rfl, hb⟩
  exact ⟨_, rfl, h3 w', hb⟩
theorem e_rtext (h1 : PR csz numc okT nt cl w0 p1 r k) (hk : k ≤ 1000000) (h3 : RV csz numc okT nt cl w0 res (str (qtext r))) : V csz numc okT nt cl w0 (.call 83) [p1] res := by
  refine ⟨enters_of Tryz.func83 (by kernel_rfl) rfl, fun w vs hb hvs => ?_⟩
  obtain ⟨v1, _, rfl, h4, rfl⟩ := hvs
  have h4 := h1 _ _ h4
  refine (rtext_ok v1 r k w h4.1 h4.2 hk).mono ?_
  rintro e w' ⟨rfl, hb⟩
  exact ⟨_, rfl, h3 w', hb⟩
end
theorem qrT : (∀ t ∈ [26, 33], t ≠ 23) ∧ (∀ t ∈ [26, 33], t ≠ 3) := by decide
theorem same_ok (x y : Value) (r s : Rat) (k : Nat) (w : World) (hx : IsQ w x r) (hy : RQ w y s) (z1 : Siz r k) (z2 : Siz s k) (hk : k ≤ 1000000) : Calls Tryz.prog 13 #[x, y] w (Go.Proofs.YtccabfblgjcboaaGreatDoor.Val w (.bool (decide (r = s)))) := by
  have hC : (mkC [4, 3, 1, 1] [true, true, true, true] [26, 33] 10 [clQ r k, clR s k, clV (str (qtext r)), clV (str (qtext s))] w).Ok := mkC_ok (oks_cons (clQ_ok qrT.1 _ _) (oks_cons (clR_ok qrT.2 _ _) (oks_cons (clVs_ok _) (oks_cons (clVs_ok _) oks_nil)))) rfl rfl
  have hT : ∀ e, decide (r = s) = e → ∀ t ∈ ([⟨.call 14, [qp 0], .val (op 2)⟩, ⟨.call 83, [rq 1], .val (op 3)⟩, ⟨.bin .eql 9, [op 2, op 3], .val (vp (.bool e))⟩] : List Ent), t.Valid (mkC [4, 3, 1, 1] [true, true, true, true] [26, 33] 10 [clQ r k, clR s k, clV (str (qtext r)), clV (str (qtext s))] w) := fun e he =>
    forall_cons (e_text (pq rfl) hk (rv rfl)) (forall_cons (e_rtext (pr rfl) hk (rv rfl)) (forall_cons (e_eqs (pv rfl) (pv rfl) (by rw [← he]; congr 1; exact propext ⟨fun h => qtext_inj h, fun h => by rw [h]⟩)) forall_nil))
  have hv : PatsAre (mkC [4, 3, 1, 1] [true, true, true, true] [26, 33] 10 [clQ r k, clR s k, clV (str (qtext r)), clV (str (qtext s))] w) w [qp 0, rq 1] [x, y] := ⟨_, _, rfl, (qp_is rfl).2 ⟨hx, z1⟩, _, _, rfl, (rq_is rfl).2 ⟨hy, z2⟩, rfl⟩
  cases he : decide (r = s) with
  | true =>
    refine (run_mk hC (hT _ he) 13 Tryz.f13 [qp 0, rq 1] (.val (vp (.bool true))) 60 Tryz.func13 rfl rfl rfl (by kernel_rfl) [x, y] hv).mono ?_
    rintro e w' ⟨v, rfl, hv, hb⟩
    rw [val_of hv]
    exact ⟨rfl, hb⟩
  | false =>
    refine (run_mk hC (hT _ he) 13 Tryz.f13 [qp 0, rq 1] (.val (vp (.bool false))) 60 Tryz.func13 rfl rfl rfl (by kernel_rfl) [x, y] hv).mono ?_
    rintro e w' ⟨v, rfl, hv, hb⟩
    rw [val_of hv]
    exact ⟨rfl, hb⟩
section
variable {csz : List Nat} {numc : List Bool} {okT : List Nat} {nt : Nat} {cl : List Cl} {w0 : World} {w : World} {v z : Value} {p1 p2 p3 p4 : Pat} {res : RPat} {c d c1 c2 c3 c4 c5 c6 : Nat} {a b l : List UInt8} {r s : Rat} {k k1 k2 : Nat}
theorem e_same {e : Bool} (h1 : PQ csz numc okT nt cl w0 p1 r k1) (h2 : PR csz numc okT nt cl w0 p2 s k2) (hk : fits (k1 + k2) 1000000 = true) (he : decide (r = s) = e) : V csz numc okT nt cl w0 (.call 13) [p1, p2] (.val (vp (.bool e))) := by
  subst he
  have hk := fits_le hk
  refine ⟨enters_of Tryz.func13 (by kernel_rfl) rfl, fun w vs hb hvs => ?_⟩
  obtain ⟨v1, _, rfl, h4, v2, _, rfl, h5, rfl⟩ := hvs
  have h4 := h1 _ _ h4
  have h5 := h2 _ _ h5
  refine (same_ok v1 v2 r s (k1 + k2) w h4.1 h5.1 (h4.2.le (by omega)) (h5.2.le (by omega)) (by omega)).mono ?_
  rintro e w' ⟨rfl, hb'⟩
  exact ⟨_, rfl, vp_r _ _ _, hb'⟩
end
end Sym
end Go.Proofs.YtccabfblgjcboaaGreatDoor

/- ExactMakes: for all integers the call returns true: integers and fractions, and the way back, are those of the document. No condition. -/
namespace Go.Proofs.YtccabfblgjcboaaGreatDoor
open Go Go.RowKit Go.Proofs Lim
namespace Sym
section
variable {csz : List Nat} {numc : List Bool} {okT : List Nat} {nt : Nat} {cl : List Cl} {w0 : World} {w : World} {v z : Value} {p1 p2 p3 p4 : Pat} {res : RPat} {c d c1 c2 c3 c4 c5 c6 : Nat} {a b l : List UInt8} {r s : Rat} {k k1 k2 k3 : Nat} {i j : Int}
theorem e_intx (h1 : PV csz numc okT nt cl w0 p1 (ii i)) (g1 : -9223372036854775808 ≤ i) (g2 : i ≤ 9223372036854775807) (h3 : cl[c3]? = some (clQ (i : Rat) k3)) (hk : fits 1 k3 = true) : V csz numc okT nt cl w0 (.call 15) [p1] (.val (qp c3)) := by
  refine ⟨enters_of Tryz.func15 (by kernel_rfl) rfl, fun w vs hb hvs => ?_⟩
  obtain ⟨v1, _, rfl, h4, rfl⟩ := hvs
  obtain rfl := h1 _ _ h4
  refine (int_q i g1 g2 w).mono ?_
  rintro e w' ⟨v, rfl, hv, hb'⟩
  exact ⟨v, rfl, (qp_is h3).2 ⟨hv, (siz_int i g1 g2).le (fits_le hk).1⟩, hb'⟩
theorem e_rintx (h1 : PV csz numc okT nt cl w0 p1 (ii i)) (g1 : -9223372036854775808 ≤ i) (g2 : i ≤ 9223372036854775807) (h3 : cl[c3]? = some (clR (i : Rat) k3)) (hk : fits 1 k3 = true) : V csz numc okT nt cl w0 (.call 16) [p1] (.val (rq c3)) := by
  refine ⟨enters_of Tryz.func16 (by kernel_rfl) rfl, fun w vs hb hvs => ?_⟩
  obtain ⟨v1, _, rfl, h4, rfl⟩ := hvs
  obtain rfl := h1 _ _ h4
  refine (rint_q i g1 g2 w).mono ?_
  rintro e w' ⟨v, rfl, hv, hb'⟩
  exact ⟨v, rfl, (rq_is h3).2 ⟨hv, (siz_int i g1 g2).le (fits_le hk).1⟩, hb'⟩
theorem e_int64 {x : Int} {y : Bool} {p5 p6 : Pat} (h1 : PQ csz numc okT nt cl w0 p1 r k1) (hx : (if isI64 r then r.num else 0) = x) (hy : isI64 r = y) (h5 : ∀ w, p5.is (mkC csz numc okT nt cl w0) w (ii x)) (h6 : ∀ w, p6.is (mkC csz numc okT nt cl w0) w (.bool y)) : V csz numc okT nt cl w0 (.call 17) [p1] (.tup [p5, p6]) := by
  refine ⟨enters_of Tryz.func17 (by kernel_rfl) rfl, fun w vs hb hvs => ?_⟩
  obtain ⟨v1, _, rfl, h4, rfl⟩ := hvs
  refine (int64_q v1 r w (h1 _ _ h4).1).mono ?_
  rintro e w' ⟨rfl, hb'⟩
  rw [hx, hy]
  exact ⟨_, rfl, ⟨_, ⟨_, _, rfl, h5 w', _, _, rfl, h6 w', rfl⟩, rfl⟩, hb'⟩
theorem e_rint64 {x : Int} {y : Bool} {p5 p6 : Pat} (h1 : PR csz numc okT nt cl w0 p1 r k1) (hk : k1 ≤ 4000) (hx : (if isI64 r then r.num else 0) = x) (hy : isI64 r = y) (h5 : ∀ w, p5.is (mkC csz numc okT nt cl w0) w (ii x)) (h6 : ∀ w, p6.is (mkC csz numc okT nt cl w0) w (.bool y)) : V csz numc okT nt cl w0 (.call 21) [p1] (.tup [p5, p6]) := by
  refine ⟨enters_of Tryz.func21 (by kernel_rfl) rfl, fun w vs hb hvs => ?_⟩
  obtain ⟨v1, _, rfl, h4, rfl⟩ := hvs
  refine (rint64_q v1 r k1 w (h1 _ _ h4).1 (h1 _ _ h4).2 hk).mono ?_
  rintro e w' ⟨rfl, hb'⟩
  rw [hx, hy]
  exact ⟨_, rfl, ⟨_, ⟨_, _, rfl, h5 w', _, _, rfl, h6 w', rfl⟩, rfl⟩, hb'⟩
theorem e_of (hG : Gr w0) (h1 : PV csz numc okT nt cl w0 p1 (ii i)) (h2 : PV csz numc okT nt cl w0 p2 (ii j)) (g1 : -9223372036854775808 ≤ i) (g2 : i ≤ 9223372036854775807) (g3 : -9223372036854775808 ≤ j) (g4 : j ≤ 9223372036854775807) (h0 : j ≠ 0) (h3 : cl[c3]? = some (clQ ((i : Rat) / (j : Rat)) k3)) (hk : fits 2 k3 = true) : V csz numc okT nt cl w0 (.call 18) [p1, p2] (.tup [qp c3, vp (ii 0)]) := by
  refine ⟨enters_of Tryz.func18 (by kernel_rfl) rfl, fun w vs hb hvs => ?_⟩
  obtain ⟨v1, _, rfl, h4, v2, _, rfl, h5, rfl⟩ := hvs
  obtain rfl := h1 _ _ h4
  obtain rfl := h2 _ _ h5
  refine (of_q i j g1 g2 g3 g4 w (hG.below hb hG.size)).mono ?_
  rintro e w' (⟨hj, _⟩ | ⟨_, v, rfl, hv, hb'⟩)
  · exact absurd hj h0
  · exact ⟨_, rfl, ⟨_, ⟨_, _, rfl, (qp_is h3).2 ⟨hv, ((siz_int i g1 g2).div (siz_int j g3 g4) h0).le (fits_le hk).1⟩, _, _, rfl, vp_is.2 rfl, rfl⟩, rfl⟩, hb'⟩
theorem e_of0 (hG : Gr w0) (h1 : PV csz numc okT nt cl w0 p1 (ii i)) (g1 : -9223372036854775808 ≤ i) (g2 : i ≤ 9223372036854775807) (h3 : cl[c3]? = some (clQ 0 k3)) (hk : fits 1 k3 = true) : V csz numc okT nt cl w0 (.call 18) [p1, vp (ii 0)] (.tup [qp c3, vp (ii 10)]) := by
  refine ⟨enters_of Tryz.func18 (by kernel_rfl) rfl, fun w vs hb hvs => ?_⟩
  obtain ⟨v1, _, rfl, h4, v2, _, rfl, h5, rfl⟩ := hvs
  obtain rfl := h1 _ _ h4
  obtain rfl := vp_is.1 h5
  refine (of_q i 0 g1 g2 (by decide) (by decide) w (hG.below hb hG.size)).mono ?_
  rintro e w' (⟨_, rfl, hb'⟩ | ⟨h, _⟩)
  · exact ⟨_, rfl, ⟨_, ⟨_, _, rfl, (qp_is h3).2 ⟨Num.low 0 rfl rfl B_pos (show 1 < B by decide), (Siz.zero 1 (by decide)).le (fits_le hk).1⟩, _, _, rfl, vp_is.2 rfl, rfl⟩, rfl⟩, hb'⟩
  · exact absurd rfl h
theorem e_frac (h1 : PV csz numc okT nt cl w0 p1 (ii i)) (h2 : PV csz numc okT nt cl w0 p2 (ii j)) (g1 : -9223372036854775808 ≤ i) (g2 : i ≤ 9223372036854775807) (g3 : -9223372036854775808 ≤ j) (g4 : j ≤ 9223372036854775807) (h0 : j ≠ 0) (hr : (i : Rat) / (j : Rat) = r) (k1 : cl[c1]? = some (clV (.bool (decide (r.num < 0))))) (k2 : cl[c2]? = some (clD (digs r.num.natAbs))) (k3 : cl[c3]? = some (clD (digs r.den))) : V csz numc okT nt cl w0 (.call 20) [p1, p2] (.val (rp c1 c2 c3)) := by
  refine ⟨enters_of Tryz.func20 (by kernel_rfl) rfl, fun w vs hb hvs => ?_⟩
  obtain ⟨v1, _, rfl, h4, v2, _, rfl, h5, rfl⟩ := hvs
  obtain rfl := h1 _ _ h4
  obtain rfl := h2 _ _ h5
  refine (rfrac_q i j g1 g2 g3 g4 h0 w).mono ?_
  rintro e w' ⟨v, rfl, hv, hb'⟩
  rw [hr] at hv
  exact ⟨v, rfl, (rp_is k1 k2 k3).2 hv, hb'⟩
theorem e_parts (h1 : PQ csz numc okT nt cl w0 p1 r k1) (hk1 : 1 ≤ k1) (h2 : cl[c2]? = some (clQ (r.num : Rat) k2)) (h3 : cl[c3]? = some (clQ (((r.den : Nat) : Int) : Rat) k3)) (hk : fits k1 k2 = true) (hk' : fits k1 k3 = true) : V csz numc okT nt cl w0 (.call 22) [p1] (.tup [qp c2, qp c3]) := by
  refine ⟨enters_of Tryz.func22 (by kernel_rfl) rfl, fun w vs hb hvs => ?_⟩
  obtain ⟨v1, _, rfl, h4, rfl⟩ := hvs
  have h4 := h1 _ _ h4
  refine (parts_q v1 r w h4.1).mono ?_
  rintro e w' ⟨v, u, rfl, hv, hu, hb'⟩
  exact ⟨_, rfl, ⟨_, ⟨_, _, rfl, (qp_is h2).2 ⟨hv, Siz.le (show Siz _ k1 from ⟨h4.2.1, one_lt_pow hk1⟩) (fits_le hk).1⟩, _, _, rfl, (qp_is h3).2 ⟨hu, Siz.le (show Siz _ k1 from ⟨h4.2.2, one_lt_pow hk1⟩) (fits_le hk').1⟩, rfl⟩, rfl⟩, hb'⟩
theorem e_neqi {t : Nat} {x y : Int} {e : Bool} (h1 : PV csz numc okT nt cl w0 p1 (ii x)) (h2 : PV csz numc okT nt cl w0 p2 (ii y)) (he : (x != y) = e) : V csz numc okT nt cl w0 (.bin .neq t) [p1, p2] (.val (vp (.bool e))) :=
  e_bin h1 h2 rvl (fun w => by subst he; rfl)
theorem pr3 (h1 : cl[c1]? = some (clV (.bool (decide (r.num < 0))))) (h2 : cl[c2]? = some (clD (digs r.num.natAbs))) (h3 : cl[c3]? = some (clD (digs r.den))) (z : Siz r k) : PR csz numc okT nt cl w0 (rp c1 c2 c3) r k := fun w v h => ⟨(rp_is h1 h2 h3).1 h, z⟩
theorem pr_num (h1 : cl[c1]? = some (clV (.bool (decide (r.num < 0))))) (h2 : cl[c2]? = some (clD (digs r.num.natAbs))) (h3 : cl[c3]? = some (clD (digs 1))) (z : Siz r k) (hk : 1 ≤ k) : PR csz numc okT nt cl w0 (rp c1 c2 c3) (r.num : Rat) k := fun w v h => ⟨rq_intcast rfl ((rp_is h1 h2 h3).1 h), ⟨z.1, one_lt_pow hk⟩⟩
theorem pr_den (h2 : cl[c2]? = some (clD (digs r.den))) (h3 : cl[c3]? = some (clD (digs 1))) (z : Siz r k) (hk : 1 ≤ k) : PR csz numc okT nt cl w0 (rl false c2 c3) (((r.den : Nat) : Int) : Rat) k := fun w v h => ⟨rq_intcast (i := ((r.den : Nat) : Int)) (pos_dec _) ((rl_is2 h2 h3).1 h), ⟨z.2, one_lt_pow hk⟩⟩
end
theorem isI64_int {i : Int} (g1 : -9223372036854775808 ≤ i) (g2 : i ≤ 9223372036854775807) : isI64 (i : Rat) = true := decide_eq_true ⟨rfl, g1, g2⟩
set_option maxRecDepth 100000 in
theorem makes_walk (a b : Int) (ha1 : -9223372036854775808 ≤ a) (ha2 : a ≤ 9223372036854775807) (hb1 : -9223372036854775808 ≤ b) (hb2 : b ≤ 9223372036854775807) (w : World) (hG : Gr w) : Calls Tryz.prog 4 #[.int .i64 a, .int .i64 b] w (Go.Proofs.YtccabfblgjcboaaGreatDoor.Val w (.bool true)) := by
  have ia := isI64_int ha1 ha2
  by_cases h0 : b = 0
  · subst h0
    have hC : (mkC [1, 4, 3, 4] [true, true, true, true] [26, 33] 114 [clV (ii a), clQ (a : Rat) 2, clR (a : Rat) 2, clQ 0 2] w).Ok := mkC_ok (oks_cons (clVi_ok _) (oks_cons (clQ_ok qrT.1 _ _) (oks_cons (clR_ok qrT.2 _ _) (oks_cons (clQ_ok qrT.1 _ _) oks_nil)))) rfl rfl
    have hT : ∀ t ∈ ([⟨.call 15, [op 0], .val (qp 1)⟩, ⟨.call 16, [op 0], .val (rq 2)⟩, ⟨.call 17, [qp 1], .tup [op 0, vp (.bool true)]⟩, ⟨.call 13, [qp 1, rq 2], .val (vp (.bool true))⟩, ⟨.bin .neq 2, [op 0, op 0], .val (vp (.bool false))⟩,
        ⟨.call 18, [op 0, vp (ii 0)], .tup [qp 3, vp (ii 10)]⟩, ⟨.call 19, [qp 3], .val (vp (.int .i64 0))⟩, ⟨.call 10, [], .val (vp (.bool true))⟩] : List Ent), t.Valid (mkC [1, 4, 3, 4] [true, true, true, true] [26, 33] 114 [clV (ii a), clQ (a : Rat) 2, clR (a : Rat) 2, clQ 0 2] w) :=
      forall_cons (e_intx (pv rfl) ha1 ha2 rfl rfl) (forall_cons (e_rintx (pv rfl) ha1 ha2 rfl rfl) (forall_cons (e_int64 (x := a) (pq rfl) (by rw [ia]; rfl) ia (fun _ => (op_is rfl).2 rfl) (fun _ => vp_is.2 rfl)) (forall_cons (e_same (pq rfl) (pr rfl) rfl (decide_eq_true rfl)) (forall_cons (e_neqi (pv rfl) (pv rfl) (by simp))
        (forall_cons (e_of0 hG (pv rfl) ha1 ha2 rfl rfl) (forall_cons (e_sign (pq rfl) (by rfl)) (forall_cons (e_known hG) forall_nil)))))))
    refine (run_mk hC hT 4 Tryz.f4 [op 0, vp (ii 0)] (.val (vp (.bool true))) 200 Tryz.func4 rfl rfl rfl (by kernel_rfl) [.int .i64 a, .int .i64 0] ⟨_, _, rfl, (op_is rfl).2 rfl, _, _, rfl, vp_is.2 rfl, rfl⟩).mono ?_
    rintro e w' ⟨v, rfl, hv, hb⟩
    rw [val_of hv]
    exact ⟨rfl, hb⟩
  · have hz : Siz ((a : Rat) / (b : Rat)) 2 := (siz_int a ha1 ha2).div (siz_int b hb1 hb2) h0
    generalize hq : (a : Rat) / (b : Rat) = q at hz
    have hC : (mkC [1, 1, 4, 3, 4, 1, 1, 1, 1, 1, 4, 4, 1] [true, true, true, true, true, true, false, false, true, true, true, true, false] [26, 33] 114 [clV (ii a), clV (ii b), clQ (a : Rat) 2, clR (a : Rat) 2, clQ q 2, clV (.bool (decide (q.num < 0))), clD (digs q.num.natAbs), clD (digs q.den), clV (ii (if isI64 q then q.num else 0)), clV (.bool (isI64 q)), clQ (q.num : Rat) 2, clQ (((q.den : Nat) : Int) : Rat) 2, clD (digs 1)] w).Ok :=
      mkC_ok (oks_cons (clVi_ok _) (oks_cons (clVi_ok _) (oks_cons (clQ_ok qrT.1 _ _) (oks_cons (clR_ok qrT.2 _ _) (oks_cons (clQ_ok qrT.1 _ _) (oks_cons (clVb_ok _) (oks_cons (clD_ok qrT.2 _) (oks_cons (clD_ok qrT.2 _) (oks_cons (clVi_ok _) (oks_cons (clVb_ok _) (oks_cons (clQ_ok qrT.1 _ _) (oks_cons (clQ_ok qrT.1 _ _) (oks_cons (clD_ok qrT.2 _) oks_nil))))))))))))) rfl rfl
    have hT : ∀ t ∈ ([⟨.call 15, [op 0], .val (qp 2)⟩, ⟨.call 16, [op 0], .val (rq 3)⟩, ⟨.call 17, [qp 2], .tup [op 0, vp (.bool true)]⟩, ⟨.call 13, [qp 2, rq 3], .val (vp (.bool true))⟩, ⟨.bin .neq 2, [op 0, op 0], .val (vp (.bool false))⟩,
        ⟨.call 18, [op 0, op 1], .tup [qp 4, vp (ii 0)]⟩, ⟨.bin .eql 2, [op 1, vp (ii 0)], .val (vp (.bool false))⟩, ⟨.call 20, [op 0, op 1], .val (rp 5 6 7)⟩, ⟨.call 17, [qp 4], .tup [op 8, op 9]⟩, ⟨.call 21, [rp 5 6 7], .tup [op 8, op 9]⟩,
        ⟨.call 22, [qp 4], .tup [qp 10, qp 11]⟩, ⟨.call 13, [qp 4, rp 5 6 7], .val (vp (.bool true))⟩, ⟨.bin .eql 2, [op 8, op 8], .val (vp (.bool true))⟩, ⟨.bin .eql 4, [op 9, op 9], .val (vp (.bool true))⟩, ⟨.bs 31 1, [vp (ii 1)], .val (op 12)⟩,
        ⟨.call 13, [qp 10, rp 5 6 12], .val (vp (.bool true))⟩, ⟨.call 13, [qp 11, rl false 7 12], .val (vp (.bool true))⟩, ⟨.call 10, [], .val (vp (.bool true))⟩] : List Ent), t.Valid (mkC [1, 1, 4, 3, 4, 1, 1, 1, 1, 1, 4, 4, 1] [true, true, true, true, true, true, false, false, true, true, true, true, false] [26, 33] 114 [clV (ii a), clV (ii b), clQ (a : Rat) 2, clR (a : Rat) 2, clQ q 2, clV (.bool (decide (q.num < 0))), clD (digs q.num.natAbs), clD (digs q.den), clV (ii (if isI64 q then q.num else 0)), clV (.bool (isI64 q)), clQ (q.num : Rat) 2, clQ (((q.den : Nat) : Int) : Rat) 2, clD (digs 1)] w) :=
      forall_cons (e_intx (pv rfl) ha1 ha2 rfl rfl) (forall_cons (e_rintx (pv rfl) ha1 ha2 rfl rfl) (forall_cons (e_int64 (x := a) (pq rfl) (by rw [ia]; rfl) ia (fun _ => (op_is rfl).2 rfl) (fun _ => vp_is.2 rfl)) (forall_cons (e_same (pq rfl) (pr rfl) rfl (decide_eq_true rfl)) (forall_cons (e_neqi (pv rfl) (pv rfl) (by simp))
        (forall_cons (e_of hG (pv rfl) (pv rfl) ha1 ha2 hb1 hb2 h0 (by rw [hq]; rfl) rfl) (forall_cons (e_eql (pv rfl) pvl (decide_eq_false h0)) (forall_cons (e_frac (pv rfl) (pv rfl) ha1 ha2 hb1 hb2 h0 hq rfl rfl rfl) (forall_cons (e_int64 (pq rfl) rfl rfl (fun _ => (op_is rfl).2 rfl) (fun _ => (op_is rfl).2 rfl)) (forall_cons (e_rint64 (pr3 rfl rfl rfl hz) (by decide) rfl rfl (fun _ => (op_is rfl).2 rfl) (fun _ => (op_is rfl).2 rfl))
          (forall_cons (e_parts (pq rfl) (by decide) rfl rfl rfl rfl) (forall_cons (e_same (pq rfl) (pr3 rfl rfl rfl hz) rfl (decide_eq_true rfl)) (forall_cons (e_eql (pv rfl) (pv rfl) (decide_eq_true rfl)) (forall_cons (e_eqb (pv rfl) (pv rfl) (by simp)) (forall_cons (e_bs1 (x := 1) pvl (rd (by rw [← digs_one]; rfl)))
            (forall_cons (e_same (pq rfl) (pr_num rfl rfl rfl hz (by decide)) rfl (decide_eq_true rfl)) (forall_cons (e_same (pq rfl) (pr_den rfl rfl hz (by decide)) rfl (decide_eq_true rfl)) (forall_cons (e_known hG) forall_nil)))))))))))))))))
    refine (run_mk hC hT 4 Tryz.f4 [op 0, op 1] (.val (vp (.bool true))) 200 Tryz.func4 rfl rfl rfl (by kernel_rfl) [.int .i64 a, .int .i64 b] ⟨_, _, rfl, (op_is rfl).2 rfl, _, _, rfl, (op_is rfl).2 rfl, rfl⟩).mono ?_
    rintro e w' ⟨v, rfl, hv, hb⟩
    rw [val_of hv]
    exact ⟨rfl, hb⟩
end Sym
end Go.Proofs.YtccabfblgjcboaaGreatDoor
