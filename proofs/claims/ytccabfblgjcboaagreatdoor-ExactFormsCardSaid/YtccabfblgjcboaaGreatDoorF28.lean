/- Package exact: RefN RefRead LawReads. -/
import Derived.Test.YtccabfblgjcboaaGreatDoorF27
import Derived.Laws.Strings3
import Derived.Test.YtccabfblgjcboaaGreatDoorF21
set_option linter.all false

namespace Go.Proofs.YtccabfblgjcboaaGreatDoor
open Go Go.RowKit Go.Proofs Lim
namespace Sym
section
variable {csz : List Nat} {numc : List Bool} {okT : List Nat} {nt : Nat} {cl : List Cl} {w0 : World} {w : World} {v z : Value} {p1 p2 p3 p4 : jQ} {res : RPat} {c d c1 c2 c3 c4 c5 c6 : Nat} {a b l : List UInt8}
theorem hd_si {o : Oper} {t : Nat} {xs : List Operand} (h : opHd o = some (.si t, xs)) : ∃ x y, o.op = .index t x y ∧ xs = [x, y] := by
 unfold opHd at h
 split at h <;> first
  | (rename_i h0; simp only [Option.some.injEq, Prod.mk.injEq, Hd.si.injEq, reduceCtorEq, false_and] at h; try (obtain ⟨rfl, rfl⟩ := h; exact ⟨_, _, h0, rfl⟩))
  | (split at h <;> simp at h)
  | simp at h
theorem e_slen {n : Int} (hn : ((l.length : Nat) : Int) = n) (h1 : PV csz numc okT nt cl w0 p1 (je l)) (h3 : RV csz numc okT nt cl w0 res (ii n)) : V csz numc okT nt cl w0 (.blt .len [9] 3) [p1] res := by
 intro w ρ oo xs ho hb hvs
 obtain ⟨c, hop, hc, hat, hty, rfl⟩ := hd_blt ho
 obtain ⟨v1, _, e1, h4, e2⟩ := hvs
 obtain rfl := h1 _ _ h4
 subst e2
 refine ⟨_, w, ?_, h3 w, Below.refl _ _⟩
 have he : c.args.map ρ = #[je l] := by
  apply Array.ext'
  simpa using e1
 have hr := run_len_string (P := Tryz.prog) w 9 3 ⟨l.toArray⟩ und_str
 have hs : goInt (⟨l.toArray⟩ : ByteArray).size = ii n := by
  show Value.int .i64 ((l.length : Nat) : Int) = _
  rw [hn]
 rw [hs] at hr
 show (execOp ρ oo).run Tryz.prog w = _
 simp only [execOp, hop, resolve, hc, he, Sem.run_bind, Sem.run_pure, Result.andThen_ok, invoke, builtin, hat, hty]
 simp [Sem.run_bind, hr, Result.andThen]
theorem e_six {i : Nat} {x : Nat} (hi : i < l.length) (hx : (l.getD i 0).toNat = x) (h1 : PV csz numc okT nt cl w0 p1 (je l)) (h2 : PV csz numc okT nt cl w0 p2 (ii (i : Int))) (h3 : RV csz numc okT nt cl w0 res (.int .u8 (x : Int))) : V csz numc okT nt cl w0 (.si 9) [p1, p2] res := by
 intro w ρ oo xs ho hb hvs
 obtain ⟨y, u, hop, rfl⟩ := hd_si ho
 obtain ⟨v1, _, e1, h4, v2, _, e2, h5, e3⟩ := hvs
 obtain rfl := h1 _ _ h4
 obtain rfl := h2 _ _ h5
 subst e2
 simp only [List.map_cons, List.map_nil, List.cons.injEq] at e1
 obtain ⟨ea, eb, _⟩ := e1
 refine ⟨_, w, ?_, h3 w, Below.refl _ _⟩
 have hr := run_index_string (P := Tryz.prog) w 9 ⟨l.toArray⟩ .i64 (i : Int) und_str
 have hs : (0 : Int) ≤ (i : Int) ∧ (i : Int) < ((⟨l.toArray⟩ : ByteArray).size : Nat) := ⟨by omega, by show (i : Int) < ((l.length : Nat) : Int); omega⟩
 rw [dif_pos hs] at hr
 have hv : ((⟨l.toArray⟩ : ByteArray)[((i : Int)).toNat]'(by have := hs.2; omega)) = l.getD i 0 := by
  show l.toArray[((i : Int)).toNat]'_ = _
  simp [List.getD, hi]
 rw [hv, hx] at hr
 show (execOp ρ oo).run Tryz.prog w = _
 simp only [execOp, hop, ea, eb, Sem.run_bind, hr, Result.andThen_ok]
 rfl
theorem e_ltb {t : Nat} {k : IntKind} {x y : Int} {e : Bool} (h1 : PV csz numc okT nt cl w0 p1 (.int k x)) (h2 : PV csz numc okT nt cl w0 p2 (.int k y)) (he : decide (x > y) = e) (h3 : RV csz numc okT nt cl w0 res (.bool e)) : V csz numc okT nt cl w0 (.bin .gtr t) [p1, p2] res :=
 e_bin h1 h2 h3 (fun w => by subst he; cases k <;> rfl)
theorem e_sub8 {t : Nat} {x y u : Int} (hz : x - y = u) (h1 : PV csz numc okT nt cl w0 p1 (.int .u8 x)) (h2 : PV csz numc okT nt cl w0 p2 (.int .u8 y)) (h3 : RV csz numc okT nt cl w0 res (.int .u8 u)) (hr : 0 ≤ u ∧ u ≤ 255) : V csz numc okT nt cl w0 (.bin .sub t) [p1, p2] res :=
 e_bin h1 h2 h3 (fun w => by
  show Result.ok (Value.int .u8 (IntKind.u8.wrap (x - y))) w = _
  rw [hz]
  have : IntKind.u8.wrap u = u := by show u % 256 = u; omega
  rw [this])
end
theorem isDig_iff (c : UInt8) : jC c = (!(decide (c.toNat < 48)) && !(decide (57 < c.toNat))) := by
 unfold jC
 by_cases h1 : c.toNat < 48 <;> by_cases h2 : 57 < c.toNat <;> simp [h1, h2] <;> omega
abbrev vl_nat1 (l : List UInt8) (z : Value) (i : Nat) : List Value := [je l, z, ii (i : Int), ii (l.length : Int), .int .u8 (((l.getD i 0).toNat : Nat) : Int), ii ((i + 1 : Nat) : Int)]
theorem nat1_one {z : Value} (hz : z.oneCell' = true) (l : List UInt8) (i : Nat) : ∀ v ∈ vl_nat1 l z i, v.oneCell' = true := cg rfl (cg hz (cg rfl (cg rfl (cg rfl (cg rfl cR)))))
def t_nat1a (b : Bool) : List cW := [⟨.blt .len [9] 3, [op 0], .val (op 3)⟩, ⟨.bin .lss 3, [op 2, op 3], .val (vp (.bool b))⟩, ⟨.bin .add 3, [op 2, vp (ii 1)], .val (op 5)⟩]
def t_nat1b (b1 b2 : Bool) : List cW := [⟨.si 9, [op 0, op 2], .val (op 4)⟩, ⟨.bin .lss 5, [op 4, vp (.int .u8 48)], .val (vp (.bool b1))⟩, ⟨.bin .gtr 5, [op 4, vp (.int .u8 57)], .val (vp (.bool b2))⟩]
theorem nat1_a (l : List UInt8) (z : Value) (i : Nat) (hi : i < 1000000000) (w : World) {b : Bool} (h : decide (i < l.length) = b) : ∀ t ∈ t_nat1a b, t.Valid (CV 58 (vl_nat1 l z i) w) :=
 ca (e_slen rfl (jj rfl) (kn rfl)) (ca (kj (jj rfl) (jj rfl) (by rw [← h]; congr 1; apply propext; omega)) (ca (e_add (by omega) (jj rfl) jR (kn rfl) (by omega)) ce))
theorem nat1_b (l : List UInt8) (z : Value) (i : Nat) (hi : i < l.length) (w : World) {b1 b2 : Bool} (h1 : decide ((l.getD i 0).toNat < 48) = b1) (h2 : decide (57 < (l.getD i 0).toNat) = b2) : ∀ t ∈ t_nat1b b1 b2, t.Valid (CV 58 (vl_nat1 l z i) w) :=
 ca (e_six hi rfl (jj rfl) (jj rfl) (kn rfl)) (ca (kj (jj rfl) jR (by rw [← h1]; congr 1; apply propext; omega)) (ca (kw (jj rfl) jR (by rw [← h2]; congr 1; apply propext; omega)) ce))
noncomputable def b_nat : Code := bodyOf Tryz.f81
noncomputable def l1_nat : Code := cP (cP (cq (cI (cq (cq b_nat)))))
noncomputable def l2_nat : Code := cP (cP (cq (cI (cq (cq (cq b_nat))))))
noncomputable def l3_nat : Code := cP (cP (cq (cI (cq (cP (cI (cq l2_nat)))))))
theorem dval_take_succ {l : List UInt8} {i : Nat} (hi : i < l.length) (E : Nat) (hE : E ≤ i) : cO ((l.take (i + 1)).drop E) = 10 * cO ((l.take i).drop E) + ((l.getD i 0).toNat - 48) := by
 have : (l.take (i + 1)).drop E = (l.take i).drop E ++ [l.getD i 0] := by
  rw [List.take_add_one, List.getElem?_eq_getElem hi]
  rw [List.drop_append_of_le_length (by rw [List.length_take]; omega)]
  congr 1
  simp [List.getD, hi]
 rw [this, dval_snoc]
theorem dval_group (l : List UInt8) (hd : ∀ c ∈ l, jC c = true) (i E : Nat) (hi : i ≤ l.length) (h : i ≤ E + 4) : cO ((l.take i).drop E) < 10000 := by
 have h1 := dval_lt ((l.take i).drop E) (fun c hc => hd c (List.mem_of_mem_take (List.mem_of_mem_drop hc)))
 have h2 : ((l.take i).drop E).length ≤ 4 := by rw [List.length_drop, List.length_take]; omega
 exact Nat.lt_of_lt_of_le h1 (Nat.pow_le_pow_right (by decide) h2)
theorem dval_take_split (l : List UInt8) (e : Nat) (he : e ≤ l.length) : cO (l.take e) = 10000 * cO (l.take (e - 4)) + cO ((l.take e).drop (e - 4)) := by
 have h : l.take e = l.take (e - 4) ++ (l.take e).drop (e - 4) := by
  have := List.take_append_drop (e - 4) (l.take e)
  rw [List.take_take, Nat.min_eq_left (by omega)] at this
  exact this.symm
 have h2 := congrArg cO h
 rw [dval_append] at h2
 rcases Nat.lt_or_ge e 4 with h4 | h4
 · have e0 : e - 4 = 0 := by omega
   rw [e0] at h2 ⊢
   simp [dval_nil] at h2 ⊢
 · have hl : ((l.take e).drop (e - 4)).length = 4 := by rw [List.length_drop, List.length_take]; omega
   rw [hl] at h2
   exact h2
abbrev vl_nat3 (l : List UInt8) (z : Value) (e : Int) (E i d : Nat) : List Value := [je l, z, ii e, ii (d : Int), ii (i : Int), ii ((10 * d : Nat) : Int), .int .u8 (((l.getD i 0).toNat : Nat) : Int), .int .u8 (((l.getD i 0).toNat - 48 : Nat) : Int), ii (((l.getD i 0).toNat - 48 : Nat) : Int), ii ((10 * d + ((l.getD i 0).toNat - 48) : Nat) : Int), ii ((i + 1 : Nat) : Int), ii (e - 4), ii (E : Int)]
theorem nat3_one {z : Value} (hz : z.oneCell' = true) (l : List UInt8) (e : Int) (E i d : Nat) : ∀ v ∈ vl_nat3 l z e E i d, v.oneCell' = true :=
 cg rfl (cg hz (cg rfl (cg rfl (cg rfl (cg rfl (cg rfl (cg rfl (cg rfl (cg rfl (cg rfl (cg rfl (cg rfl cR))))))))))))
def t_nat3a (b : Bool) : List cW := [⟨.bin .lss 3, [op 4, op 2], .val (vp (.bool b))⟩]
def t_nat3b : List cW := [⟨.bin .mul 3, [vp (ii 10), op 3], .val (op 5)⟩, ⟨.si 9, [op 0, op 4], .val (op 6)⟩, ⟨.bin .sub 5, [op 6, vp (.int .u8 48)], .val (op 7)⟩, ⟨.cv 5 3, [op 7], .val (op 8)⟩, ⟨.bin .add 3, [op 5, op 8], .val (op 9)⟩, ⟨.bin .add 3, [op 4, vp (ii 1)], .val (op 10)⟩]
theorem nat3_b (l : List UInt8) (z : Value) (e : Int) (E i d : Nat) (hi : i < l.length) (hl : l.length < 1000000) (hd : d < 10000) (hc : jC (l.getD i 0) = true) (w : World) : ∀ t ∈ t_nat3b, t.Valid (CV 58 (vl_nat3 l z e E i d) w) := by
 unfold jC at hc
 simp only [Bool.and_eq_true, decide_eq_true_eq] at hc
 exact ca (e_mul (by omega) jR (jj rfl) (kn rfl) (by omega)) (ca (e_six hi rfl (jj rfl) (jj rfl) (kn rfl)) (ca (e_sub8 (by omega) (jj rfl) jR (kn rfl) (by omega)) (ca (e_cv (by kernel_rfl) (by kernel_rfl) (by kernel_rfl) (jj rfl) (kn rfl) (by rw [IntKind.wrap_i64]; omega))
  (ca (e_add (by omega) (jj rfl) (jj rfl) (kn rfl) (by omega)) (ca (e_add (by omega) (jj rfl) jR (kn rfl) (by omega)) ce)))))
def t_nat3c (b : Bool) : List cW := [⟨.bin .gtr 3, [op 2, vp (ii 0)], .val (vp (.bool b))⟩, ⟨.bin .sub 3, [op 2, vp (ii 4)], .val (op 11)⟩, ⟨.blt .max [3, 3] 3, [vp (ii 0), op 11], .val (op 12)⟩]
theorem nat3_c (l : List UInt8) (z : Value) (e : Int) (E i d : Nat) (he : -100 ≤ e ∧ e < 1000000) (hE : (if e - 4 > 0 then e - 4 else 0) = (E : Int)) (w : World) {b : Bool} (hb : decide (0 < e) = b) : ∀ t ∈ t_nat3c b, t.Valid (CV 58 (vl_nat3 l z e E i d) w) :=
 ca (kw (jj rfl) jR hb) (ca (e_sub rfl (jj rfl) jR (kn rfl) (by omega)) (ca (e_max jR (jj rfl) (by rw [hE]; exact kn rfl)) ce))
theorem nat_inner (l : List UInt8) (hd : ∀ c ∈ l, jC c = true) (hl : l.length < 1000000) (z : Value) (hz : z.oneCell' = true) (n E : Nat) (hn : n ≤ l.length) (hE : E = n - 4) (hpos : 0 < n) (a : Act) (w : World) (hs : kl 58 (vl_nat3 l z (n : Int) E E 0) [(0, 0), (4, 1), (6, 2), (7, 3), (8, 4)] a) {Q : Exit → Act → World → Prop}
 (hQ : ∀ a' w', kl 58 (vl_nat3 l z (n : Int) E 0 (cO ((l.take n).drop E))) [(0, 0), (4, 1), (6, 2), (7, 3)] a' → Below w.heap.size w w' → Q .normal a' w') : (Code.block 4 (.loop l3_nat)).wp Tryz.prog Q a w := by
 refine jz (Θ := Nat) (fun i a w1 => E ≤ i ∧ i ≤ n ∧ kl 58 (vl_nat3 l z (n : Int) E i (cO ((l.take i).drop E))) [(0, 0), (4, 1), (6, 2), (7, 3), (8, 4)] a ∧ Below w.heap.size w w1) (fun i => n - i) ?_ E ⟨Nat.le_refl _, by omega, ?_, Below.refl _ _⟩
 · rintro i a w1 ⟨h1, h2, hs, hb⟩
   have hg := dval_group l hd i E (by omega) (by omega)
   by_cases hi : i < n
   · have hT : ∀ w, ∀ t ∈ t_nat3a true, t.Valid (CV 58 (vl_nat3 l z (n : Int) E i (cO ((l.take i).drop E))) w) := fun w => ca (kj (jj rfl) (jj rfl) (decide_eq_true (by omega))) ce
     have hc : jC (l.getD i 0) = true := by
      have hil : i < l.length := by omega
      have : l.getD i 0 = l[i] := by simp [List.getD, hil]
      rw [this]
      exact hd _ (List.getElem_mem hil)
     refine wp_seq (cZ [(0, 0), (4, 1), (6, 2), (7, 3), (8, 4)] [(0, 0), (4, 1), (6, 2), (7, 3), (8, 4)] (n := 30) (x := .normal) (nat3_one hz _ _ _ _ _) (hT _) hs (by kernel_rfl) rfl rfl (fun a5 w5 hs hb5 => ?_))
     have hb := hb.trans (hb5.mono hb.size)
     refine wp_seq (wp_block (cZ [(0, 0), (4, 1), (6, 2), (7, 3), (8, 4)] [(0, 0), (4, 1), (6, 2), (7, 9), (8, 4)] (n := 30) (x := .normal) (nat3_one hz _ _ _ _ _) (nat3_b l z n E i _ (by omega) hl hg hc _) hs (by kernel_rfl) rfl rfl (fun a6 w6 hs hb6 => ?_)))
     have hb := hb.trans (hb6.mono hb.size)
     show (cq (cq l3_nat)).wp Tryz.prog _ _ _
     refine cZ [(0, 0), (4, 1), (6, 2), (7, 9), (8, 4)] [(0, 0), (4, 1), (6, 2), (7, 9), (8, 10)] (n := 30) (x := .normal) (nat3_one hz _ _ _ _ _) (nat3_b l z n E i _ (by omega) hl hg hc _) hs (by kernel_rfl) rfl rfl (fun a7 w7 hs hb7 => ?_)
     have hb := hb.trans (hb7.mono hb.size)
     refine ⟨i + 1, ⟨by omega, hi, ?_, hb⟩, by show n - (i + 1) < n - i; omega⟩
     rw [dval_take_succ (by omega) E h1]
     exact ⟨hs.defers, hs.size, hs.sl⟩
   · obtain rfl : i = n := by omega
     have hT : ∀ t ∈ t_nat3a false, t.Valid (CV 58 (vl_nat3 l z (i : Int) E i (cO ((l.take i).drop E))) w1) := ca (kj (jj rfl) (jj rfl) (decide_eq_false (by omega))) ce
     refine wp_seq (cZ [(0, 0), (4, 1), (6, 2), (7, 3), (8, 4)] [(0, 0), (4, 1), (6, 2), (7, 3)] (n := 30) (x := .exit 4) (nat3_one hz _ _ _ _ _) hT hs (by kernel_rfl) rfl rfl (fun a5 w5 hs hb5 => ?_))
     exact hQ a5 w5 ⟨hs.defers, hs.size, hs.sl⟩ (hb.trans (hb5.mono hb.size))
 · have : cO ((l.take E).drop E) = 0 := by
    rw [List.drop_eq_nil_of_le (by rw [List.length_take]; omega)]
    rfl
   rw [this]
   exact hs
theorem natural_ok (l : List UInt8) (w : World) (hl : l.length < 100000) : Calls Tryz.prog 81 #[je l] w (fun e w' => ∃ v, e = .returned (.tuple #[v, .bool (ki l)]) ∧ Dg w' v (if l.all jC then digs (cO l) else []) ∧ Below w.heap.size w w') := by
 refine calls_v1 (nt := 58) (f := 81) Tryz.func81 (c := .seq (cI b_nat) (.seq (cI (cq b_nat)) (.seq (.seq (cI (cI (cq (cq b_nat)))) (.block 0 (.loop l1_nat))) (.seq (.seq (cI (cI (cq (cq (cq b_nat))))) (.block 2 (.loop l2_nat))) (cq (cq (cq (cq b_nat)))))))) rfl rfl rfl (je l) (fun a hs => ?_)
 have one1 : ∀ v ∈ [je l], v.oneCell' = true := cg rfl cR
 refine wp_seq (cZ (T := []) [(0, 0)] [(0, 0)] (n := 30) (x := .normal) one1 ce hs (by kernel_rfl) rfl rfl (fun a1 w1 hs hb1 => ?_))
 refine wp_seq ?_
 show (Code.region 1 [_, _].toArray false).wp Tryz.prog _ _ _
 refine empty_v [(0, 0)] (d := 9) (t := 4) hs rfl rfl rfl rfl rfl rfl rfl rfl rfl rfl (B := w.heap.size) hb1.size (fun z a2 w2 hz hown hs hb2 => ?_)
 have hb := hb1.trans (hb2.mono hb1.size)
 have hs : kl 58 [je l, z] [(4, 1), (0, 0)] a2 := ⟨hs.defers, hs.size, hz, hs.sl⟩
 have one2 : ∀ v ∈ [je l, z], v.oneCell' = true := cg rfl (cg hown.one cR)
 refine wp_seq (wp_seq (seg_vl (T := []) [(4, 1), (0, 0)] [(0, 0), (4, 1)] [(5, ii 0)] (n := 30) (x := .normal) one2 ce hs (by kernel_rfl) rfl rfl (fun a3 w3 hs hl5 hb3 => ?_)))
 have hown := hown.below hb3
 have hb := hb.trans (hb3.mono hb.size)
 have hs : kl 58 (vl_nat1 l z 0) [(0, 0), (4, 1), (5, 2)] a3 := ⟨hs.defers, hs.size, hs.sl.1, hs.sl.2.1, hl5.1, trivial⟩
 refine jz (Θ := Nat) (fun i a w1 => i ≤ l.length ∧ (l.take i).all jC = true ∧ kl 58 (vl_nat1 l z i) [(0, 0), (4, 1), (5, 2)] a ∧ Own w.heap.size w1 z [] ∧ Below w.heap.size w w1) (fun i => l.length - i) ?_ 0 ⟨Nat.zero_le _, rfl, hs, hown, hb⟩
 rintro i a w1 ⟨hi, hall, hs, hown, hb⟩
 have one := nat1_one hown.one l i
 by_cases hend : i < l.length
 · refine wp_seq (cZ [(0, 0), (4, 1), (5, 2)] [(0, 0), (4, 1), (5, 2)] (n := 30) (x := .normal) one (nat1_a l z i (by omega) w1 (decide_eq_true hend)) hs (by kernel_rfl) rfl rfl (fun a5 w5 hs hb5 => ?_))
   have hown := hown.below hb5
   have hb := hb.trans (hb5.mono hb.size)
   have hci : l.getD i 0 = l[i] := by simp [List.getD, hend]
   by_cases hdg : jC (l.getD i 0) = true
   · have key : ∀ {Q' : Exit → Act → World → Prop}, (∀ a' w', kl 58 (vl_nat1 l z i) [(0, 0), (4, 1), (5, 2)] a' → Below w5.heap.size w5 w' → Q' .normal a' w') → (cP (cI (cq l1_nat))).wp Tryz.prog Q' a5 w5 := by
      intro Q' hQ'
      rw [isDig_iff] at hdg
      cases h1 : decide ((l.getD i 0).toNat < 48) <;> cases h2 : decide (57 < (l.getD i 0).toNat) <;> rw [h1, h2] at hdg
      · exact cZ [(0, 0), (4, 1), (5, 2)] [(0, 0), (4, 1), (5, 2)] (n := 30) (x := .normal) one (nat1_b l z i hend w5 h1 h2) hs (by kernel_rfl) rfl rfl hQ'
      all_goals cases hdg
     refine wp_seq (wp_block (key (fun a6 w6 hs hb6 => ?_)))
     have hown := hown.below hb6
     have hb := hb.trans (hb6.mono hb.size)
     show (cq (cq l1_nat)).wp Tryz.prog _ _ _
     refine cZ [(0, 0), (4, 1), (5, 2)] [(0, 0), (4, 1), (5, 5)] (n := 30) (x := .normal) one (nat1_a l z i (by omega) w6 (decide_eq_true hend)) hs (by kernel_rfl) rfl rfl (fun a7 w7 hs hb7 => ?_)
     have hown := hown.below hb7
     have hb := hb.trans (hb7.mono hb.size)
     refine ⟨i + 1, ⟨hend, ?_, ⟨hs.defers, hs.size, hs.sl⟩, hown, hb⟩, by show l.length - (i + 1) < l.length - i; omega⟩
     rw [List.take_add_one, List.getElem?_eq_getElem hend, List.all_append, hall]
     rw [hci] at hdg
     simp [hdg]
   · have hf : l.all jC = false := by
      cases h : l.all jC with
      | false => rfl
      | true =>
       exfalso
       apply hdg
       rw [hci]
       exact List.all_eq_true.1 h _ (List.getElem_mem hend)
     have hok : ki l = false := by unfold ki; rw [hf, Bool.and_false]
     have fin : ∀ a6 w6, kl 58 (vl_nat1 l z i) [(2, 1)] a6 → Ll a6 [(3, .bool false)] → Below w5.heap.size w5 w6 → bodyPost Tryz.prog Tryz.f81 (fun e w' => ∃ v, e = .returned (.tuple #[v, .bool (ki l)]) ∧ Dg w' v (if l.all jC then digs (cO l) else []) ∧ Below w.heap.size w w') .ret a6 w6 := by
      intro a6 w6 hs hl3 hb6
      refine ret_v2 rfl hs.defers hs.sl.1 hl3.1 ⟨z, by rw [hok]; rfl, ?_, hb.trans (hb6.mono hb.size)⟩
      rw [hf]
      exact (hown.below hb6).dg
     have key : ∀ {Q' : Exit → Act → World → Prop}, (∀ a' w', kl 58 (vl_nat1 l z i) [(2, 1)] a' → Ll a' [(3, .bool false)] → Below w5.heap.size w5 w' → Q' .ret a' w') → (cP (cI (cq l1_nat))).wp Tryz.prog Q' a5 w5 := by
      intro Q' hQ'
      rw [isDig_iff] at hdg
      cases h1 : decide ((l.getD i 0).toNat < 48) <;> cases h2 : decide (57 < (l.getD i 0).toNat) <;> rw [h1, h2] at hdg
      · exact absurd rfl hdg
      all_goals exact seg_vl [(0, 0), (4, 1), (5, 2)] [(2, 1)] [(3, .bool false)] (n := 30) (x := .ret) one (nat1_b l z i hend w5 h1 h2) hs (by kernel_rfl) rfl rfl hQ'
     exact wp_seq (wp_block (key (fun a6 w6 hs hl3 hb6 => fin a6 w6 hs hl3 hb6)))
 · refine wp_seq (cZ [(0, 0), (4, 1), (5, 2)] [(0, 0), (4, 1)] (n := 30) (x := .exit 0) one (nat1_a l z i (by omega) w1 (decide_eq_false hend)) hs (by kernel_rfl) rfl rfl (fun a5 w5 hs hb5 => ?_))
   have hown := hown.below hb5
   have hb := hb.trans (hb5.mono hb.size)
   have hall : l.all jC = true := by rw [List.take_of_length_le (by omega)] at hall; exact hall
   have hdl : ∀ c ∈ l, jC c = true := List.all_eq_true.1 hall
   have hokN : ki l = decide (0 < (l.length : Int)) := by
    unfold ki
    rw [hall]
    cases l <;> simp
   show ((Code.seq (.seq (cI (cI (cq (cq (cq b_nat))))) (.block 2 (.loop l2_nat))) (cq (cq (cq (cq b_nat)))))).wp Tryz.prog _ a5 w5
   have hs : kl 58 [je l, z, ii (l.length : Int)] [(0, 0), (4, 1)] a5 := ⟨hs.defers, hs.size, hs.sl⟩
   have one3 : ∀ v ∈ [je l, z, ii (l.length : Int)], v.oneCell' = true := cg rfl (cg hown.one (cg rfl cR))
   have hT : ∀ t ∈ [(⟨.blt .len [9] 3, [op 0], .val (op 2)⟩ : cW)], t.Valid (CV 58 [je l, z, ii (l.length : Int)] w5) := ca (e_slen rfl (jj rfl) (kn rfl)) ce
   refine wp_seq (wp_seq (cZ [(0, 0), (4, 1)] [(0, 0), (4, 1), (6, 2)] (n := 30) (x := .normal) one3 hT hs (by kernel_rfl) rfl rfl (fun a6 w6 hs hb6 => ?_)))
   have hown := hown.below hb6
   have hb := hb.trans (hb6.mono hb.size)
   refine jz (Θ := Nat) (fun j a w1 => ∃ z ds, ds.length = j ∧ (∀ d ∈ ds, d < 10000) ∧ 4 * j ≤ l.length + 3 ∧ cO l = 10000 ^ j * cO (l.take (l.length - 4 * j)) + cG ds ∧ kl 58 [je l, z, ii ((l.length : Int) - 4 * (j : Int))] [(0, 0), (4, 1), (6, 2)] a ∧ Own w.heap.size w1 z ds ∧ Below w.heap.size w w1) (fun j => l.length + 4 - 4 * j) ?_ 0 ⟨z, [], rfl, by simp, by omega, by simp [cG], ⟨hs.defers, hs.size, by simpa using hs.sl⟩, hown, hb⟩
   rintro j a w1 ⟨z, ds, hdl9, hdd, hj, hdv, hs, hown, hb⟩
   by_cases hgo : 4 * j < l.length
   · obtain ⟨n, hn⟩ : ∃ n, l.length - 4 * j = n := ⟨_, rfl⟩
     have hni : (l.length : Int) - 4 * (j : Int) = (n : Int) := by omega
     rw [hn] at hdv
     rw [hni] at hs
     have hE : (if (n : Int) - 4 > 0 then (n : Int) - 4 else 0) = ((n - 4 : Nat) : Int) := by split <;> omega
     have hs : kl 58 (vl_nat3 l z (n : Int) (n - 4) 0 0) [(0, 0), (4, 1), (6, 2)] a := ⟨hs.defers, hs.size, hs.sl⟩
     refine wp_seq (cZ [(0, 0), (4, 1), (6, 2)] [(0, 0), (4, 1), (6, 2)] (n := 30) (x := .normal) (nat3_one hown.one _ _ _ _ _) (nat3_c l z n (n - 4) 0 0 (by omega) hE w1 (decide_eq_true (by omega))) hs (by kernel_rfl) rfl rfl (fun a6 w6 hs hb6 => ?_))
     have hown := hown.below hb6
     have hb := hb.trans (hb6.mono hb.size)
     refine wp_seq (wp_block (wp_seq (seg_vl (T := []) [(0, 0), (4, 1), (6, 2)] [(0, 0), (4, 1), (6, 2)] [(7, ii 0)] (n := 30) (x := .normal) (nat3_one hown.one _ _ _ _ _) ce hs (by kernel_rfl) rfl rfl (fun a7 w7 hs hl7 hb7 => ?_))))
     have hown := hown.below hb7
     have hb := hb.trans (hb7.mono hb.size)
     have hs : kl 58 (vl_nat3 l z (n : Int) (n - 4) (n - 4) 0) [(0, 0), (4, 1), (6, 2), (7, 3)] a7 := ⟨hs.defers, hs.size, hs.sl.1, hs.sl.2.1, hs.sl.2.2.1, hl7.1, trivial⟩
     refine wp_seq (wp_seq (cZ [(0, 0), (4, 1), (6, 2), (7, 3)] [(0, 0), (4, 1), (6, 2), (7, 3), (8, 12)] (n := 30) (x := .normal) (nat3_one hown.one _ _ _ _ _) (nat3_c l z n (n - 4) (n - 4) 0 (by omega) hE w7 (decide_eq_true (by omega))) hs (by kernel_rfl) rfl rfl (fun a8 w8 hs hb8 => ?_)))
     have hown := hown.below hb8
     have hb := hb.trans (hb8.mono hb.size)
     refine nat_inner l hdl (by omega) z hown.one n (n - 4) (by omega) rfl (by omega) a8 w8 ⟨hs.defers, hs.size, hs.sl⟩ (fun a9 w9 hs hb9 => ?_)
     have hown := hown.below hb9
     have hb := hb.trans (hb9.mono hb.size)
     have hg := dval_group l hdl n (n - 4) (by omega) (by omega)
     have hsp := dval_take_split l n (by omega)
     generalize cO ((l.take n).drop (n - 4)) = g at hg hsp hs
     show (Code.region 15 (opsOf (cq (cq (cP (cI (cq l2_nat)))))).toArray false).wp Tryz.prog _ _ _
     have hs : kl 58 [je l, z, ii (n : Int), ii (g : Int), ii ((n : Int) - 4)] [(0, 0), (4, 1), (6, 2), (7, 3)] a9 := ⟨hs.defers, hs.size, hs.sl⟩
     have one5 : ∀ z : Value, z.oneCell' = true → ∀ v ∈ [je l, z, ii (n : Int), ii (g : Int), ii ((n : Int) - 4)], v.oneCell' = true := fun z hz => cg rfl (cg hz (cg rfl (cg rfl (cg rfl cR))))
     refine push_v (T := []) [(0, 0), (4, 1), (6, 2), (7, 3)] [(0, 0), (6, 2)] 3 (s := 49) (x := 51) (d := 52) (t := 4) (cd := 3) (z := z) (ds := ds) (dg := g) (one5 z hown.one) ce hs 1 (by kernel_rfl) rfl rfl rfl rfl rfl rfl rfl rfl rfl rfl rfl rfl rfl rfl rfl hown hb.size (by omega) (fun z' a10 w10 h4 hown hs hb10 => ?_)
     have hb := hb.trans hb10
     have hs : kl 58 [je l, z', ii (n : Int), ii (g : Int), ii ((n : Int) - 4)] [(0, 0), (4, 1), (6, 2)] a10 := ⟨hs.defers, hs.size, hs.sl.1, h4, hs.sl.2.1, trivial⟩
     have hT : ∀ t ∈ [(⟨.bin .sub 3, [op 2, vp (ii 4)], .val (op 4)⟩ : cW)], t.Valid (CV 58 [je l, z', ii (n : Int), ii (g : Int), ii ((n : Int) - 4)] w10) := ca (e_sub rfl (jj rfl) jR (kn rfl) (by omega)) ce
     show (cq (cq l2_nat)).wp Tryz.prog _ _ _
     refine cZ [(0, 0), (4, 1), (6, 2)] [(0, 0), (4, 1), (6, 4)] (n := 30) (x := .normal) (one5 z' hown.one) hT hs (by kernel_rfl) rfl rfl (fun a11 w11 hs hb11 => ?_)
     have hown := hown.below hb11
     have hb := hb.trans (hb11.mono hb.size)
     have e4 : (n : Int) - 4 = (l.length : Int) - 4 * ((j + 1 : Nat) : Int) := by omega
     refine ⟨j + 1, ⟨z', ds ++ [g], by simp [hdl9], ?_, by omega, ?_, ⟨hs.defers, hs.size, hs.sl.1, hs.sl.2.1, by rw [← e4]; exact hs.sl.2.2.1, trivial⟩, hown, hb⟩, by show l.length + 4 - 4 * (j + 1) < l.length + 4 - 4 * j; omega⟩
     · intro d hd
       rcases List.mem_append.1 hd with h | h
       · exact hdd d h
       · have : d = g := by simpa using h
         omega
     · rw [show l.length - 4 * (j + 1) = n - 4 by omega, nat_snoc, hdl9, hdv, hsp, Nat.pow_succ]
       grind
   · obtain ⟨e, he⟩ : ∃ e, (l.length : Int) - 4 * (j : Int) = e := ⟨_, rfl⟩
     rw [he] at hs
     have hs : kl 58 (vl_nat3 l z e 0 0 0) [(0, 0), (4, 1), (6, 2)] a := ⟨hs.defers, hs.size, hs.sl⟩
     refine wp_seq (cZ [(0, 0), (4, 1), (6, 2)] [(0, 0), (4, 1)] (n := 30) (x := .exit 2) (nat3_one hown.one _ _ _ _ _) (nat3_c l z e 0 0 0 (by omega) (by rw [if_neg (by omega)]; rfl) w1 (decide_eq_false (by omega))) hs (by kernel_rfl) rfl rfl (fun a6 w6 hs hb6 => ?_))
     have hown := hown.below hb6
     have hb := hb.trans (hb6.mono hb.size)
     rw [show l.length - 4 * j = 0 by omega, List.take_zero, dval_nil, Nat.mul_zero, Nat.zero_add] at hdv
     have hs : kl 58 [je l, z, ii (l.length : Int), .bool (ki l)] [(0, 0), (4, 1)] a6 := ⟨hs.defers, hs.size, hs.sl⟩
     have hC : (mkC [1, 1, 1, 1, 1] [false, false, false, false, false] [] 58 [clW (je l), clW z, clW (ii (l.length : Int)), clW (.bool (ki l)), clF w.heap.size (jH ds)] w6).Ok := cL (cb (jf rfl) (cb (jf hown.one) (cb (jf rfl) (cb (jf rfl) (cb (clF_ok noT _ _) cD))))) rfl rfl
     have hT : ∀ t ∈ [(⟨.call 123, [op 1], .val (op 4)⟩ : cW), ⟨.blt .len [9] 3, [op 0], .val (op 2)⟩, ⟨.bin .gtr 3, [op 2, vp (ii 0)], .val (op 3)⟩], t.Valid (mkC [1, 1, 1, 1, 1] [false, false, false, false, false] [] 58 [clW (je l), clW z, clW (ii (l.length : Int)), clW (.bool (ki l)), clF w.heap.size (jH ds)] w6) :=
      ca (e_trimF (pfW rfl hown.dg (fun k hk => (hown.lt k hk).1)) (rf rfl)) (ca (e_slen rfl (jj rfl) (kn rfl)) (ca (e_ltb (jj rfl) jR hokN.symm (kn rfl)) ce))
     show (cq (cq (cq (cq b_nat)))).wp Tryz.prog _ _ _
     refine seg_vf (vl := [je l, z, ii (l.length : Int), .bool (ki l)]) [(0, 0), (4, 1)] [(3, 3)] (t := 2) (ds := jH ds) hC hT hs 4 (fun i hi => ?_) rfl (n := 30) (x := .ret) (by kernel_rfl) rfl rfl (fun a7 w7 v h2 hv hfr hs hb7 => ret_v2 rfl hs.defers h2 hs.sl.1 ⟨v, rfl, ?_, hb.trans (hb7.mono hb.size)⟩)
     · have hi : i < 4 := hi
       match i, hi with
       | 0, _ => rfl
       | 1, _ => rfl
       | 2, _ => rfl
       | 3, _ => rfl
     · rw [hall, if_pos rfl, hdv, digs_nat hdd]
       exact hv
end Sym
open Go Go.RowKit Go.Proofs Lim
namespace Sym
section
variable {csz : List Nat} {numc : List Bool} {okT : List Nat} {nt : Nat} {cl : List Cl} {w0 : World} {w : World} {v z : Value} {p1 p2 p3 p4 : jQ} {res : RPat} {c d c1 c2 c3 c4 c5 c6 : Nat} {a b l : List UInt8} {x : Rat} {k : Nat}
theorem e_natural {ok : Bool} {N : List Nat} (hl : l.length < 100000) (h1 : PV csz numc okT nt cl w0 p1 (je l)) (hN : (if l.all jC then digs (cO l) else []) = N) (hok : ki l = ok) (h3 : cl[c]? = some (ko N)) : V csz numc okT nt cl w0 (.call 81) [p1] (.tup [op c, vp (.bool ok)]) := by
 refine ⟨enters_of Tryz.func81 (by kernel_rfl) rfl, fun w vs hb hvs => ?_⟩
 obtain ⟨v1, _, rfl, h4, rfl⟩ := hvs
 obtain rfl := h1 _ _ h4
 refine (natural_ok l w hl).mono ?_
 rintro e w' ⟨v, rfl, hv, hb⟩
 rw [hN] at hv
 rw [hok]
 exact ⟨_, rfl, ⟨_, ⟨_, _, rfl, (op_isD h3).2 hv, _, _, rfl, kp.2 rfl, rfl⟩, rfl⟩, hb⟩
theorem e_makeq {neg : Bool} {m n : Nat} (h1 : PV csz numc okT nt cl w0 p1 (.bool neg)) (h2 : PD csz numc okT nt cl w0 p2 (digs m)) (h3 : PD csz numc okT nt cl w0 p3 (digs n)) (hn : 0 < n) (hl1 : (digs m).length < 10000000) (hl2 : (digs n).length < 10000000) (hx : x = mkRat (sgn neg m) n) (z : cB x k) (g : cl[c]? = some (cN x k)) : V csz numc okT nt cl w0 (.call 82) [p1, p2, p3] (.val (rq c)) := by
 refine ⟨enters_of Tryz.func82 (by kernel_rfl) rfl, fun w vs hb hvs => ?_⟩
 obtain ⟨v1, _, rfl, h4, v2, _, rfl, h5, v3, _, rfl, h6, rfl⟩ := hvs
 obtain rfl := h1 _ _ h4
 refine (make_ok neg v2 v3 m n w (h2 _ _ hb h5) (h3 _ _ hb h6) hn hl1 hl2).mono ?_
 rintro e w' ⟨v, rfl, hv, hb'⟩
 exact ⟨_, rfl, (ji g).2 ⟨RatP.rq hn hv hx, z⟩, hb'⟩
theorem e_texta (h1 : PR csz numc okT nt cl w0 p1 x k) (hk : k ≤ 1000000) (h3 : RV csz numc okT nt cl w0 res (je (jv x))) : V csz numc okT nt cl w0 (.call 83) [p1] res := by
 refine ⟨enters_of Tryz.func83 (by kernel_rfl) rfl, fun w vs hb hvs => ?_⟩
 obtain ⟨v1, _, rfl, h4, rfl⟩ := hvs
 have h4 := h1 _ _ h4
 refine (rtext_ok v1 x k w h4.1 h4.2 hk).mono ?_
 rintro e w' ⟨rfl, hb⟩
 exact ⟨_, rfl, h3 w', hb⟩
theorem e_neqs {e : Bool} (h1 : PV csz numc okT nt cl w0 p1 (je a)) (h2 : PV csz numc okT nt cl w0 p2 (je b)) (he : (!decide (a = b)) = e) : V csz numc okT nt cl w0 (.bin .neq 9) [p1, p2] (.val (vp (.bool e))) := by
 intro w ρ oo xs ho hb hvs
 obtain ⟨x, y, u, hop, rfl⟩ := hd_bin ho
 obtain ⟨v1, _, e1, h4, v2, _, e2, h5, e3⟩ := hvs
 obtain rfl := h1 _ _ h4
 obtain rfl := h2 _ _ h5
 subst e2
 simp only [List.map_cons, List.map_nil, List.cons.injEq] at e1
 obtain ⟨ea, eb, _⟩ := e1
 refine ⟨_, w, ?_, vp_r _ _ _, Below.refl _ _⟩
 show (execOp ρ oo).run Tryz.prog w = _
 have hg : (eqGuard .neq 9 x y (je a) (je b)).run Tryz.prog w = .ok () w := rfl
 have hbe : (!(a == b)) = e := by
  rw [← he]
  by_cases h : a = b
  · subst h; simp
  · simp [h]
 have hr : (Go.binOp .neq 9 (je a) (je b)).run Tryz.prog w = .ok (.bool e) w := by
  show (Op.stringOp .neq ⟨a.toArray⟩ ⟨b.toArray⟩).run Tryz.prog w = _
  unfold Op.stringOp
  simp only [ByteArray.toList_eq]
  show Result.ok (Value.bool (!(a == b))) w = _
  rw [hbe]
 simp only [execOp, hop, ea, eb, Sem.run_bind, hg, hr, Result.andThen_ok]
 rfl
theorem e_neqk {t : Nat} {k : IntKind} {x y : Int} {e : Bool} (h1 : PV csz numc okT nt cl w0 p1 (.int k x)) (h2 : PV csz numc okT nt cl w0 p2 (.int k y)) (he : (x != y) = e) : V csz numc okT nt cl w0 (.bin .neq t) [p1, p2] (.val (vp (.bool e))) :=
 e_bin h1 h2 rvl (fun w => by subst he; cases k <;> rfl)
theorem e_sto {i : Nat} (hi : i ≤ l.length) (h1 : PV csz numc okT nt cl w0 p1 (je l)) (h2 : PV csz numc okT nt cl w0 p2 (ii (i : Int))) (h3 : RV csz numc okT nt cl w0 res (je (l.take i))) : V csz numc okT nt cl w0 (.sl 9 false true false) [p1, p2] res := by
 intro w ρ oo xs ho hb hvs
 obtain ⟨a, lo, hi', mx, hop, q1, q2, q3, rfl⟩ := hd_sl ho
 obtain rfl : lo = none := by cases lo <;> simp_all
 obtain rfl : mx = none := by cases mx <;> simp_all
 obtain ⟨b, rfl⟩ := Option.isSome_iff_exists.1 q2
 obtain ⟨v1, _, e1, h4, v2, _, e2, h5, e3⟩ := hvs
 obtain rfl := h1 _ _ h4
 obtain rfl := h2 _ _ h5
 subst e2
 simp only [Option.toList, List.nil_append, List.append_nil, List.map_cons, List.map_nil, List.cons.injEq] at e1
 obtain ⟨ea, eb, _⟩ := e1
 refine ⟨_, w, ?_, h3 w, Below.refl _ _⟩
 have hr := run_slice_string_to_if (P := Tryz.prog) w 9 ⟨l.toArray⟩ .i64 (i : Int) und_str
 rw [if_pos ⟨by omega, by show (i : Int) ≤ ((l.length : Nat) : Int); omega⟩] at hr
 have hx : (⟨l.toArray⟩ : ByteArray).extract 0 ((i : Int)).toNat = ⟨(l.take i).toArray⟩ := extract_take l i
 rw [hx] at hr
 show (execOp ρ oo).run Tryz.prog w = _
 simp only [execOp, hop, ea, eb, Sem.run_bind, Option.map_none, Option.map_some, run_sliceAt_string _ _ _ _ _ _ und_str, hr, Result.andThen_ok]
 rfl
theorem e_sfrom {i : Nat} (hi : i ≤ l.length) (h1 : PV csz numc okT nt cl w0 p1 (je l)) (h2 : PV csz numc okT nt cl w0 p2 (ii (i : Int))) (h3 : RV csz numc okT nt cl w0 res (je (l.drop i))) : V csz numc okT nt cl w0 (.sl 9 true false false) [p1, p2] res := by
 intro w ρ oo xs ho hb hvs
 obtain ⟨a, lo, hi', mx, hop, q1, q2, q3, rfl⟩ := hd_sl ho
 obtain rfl : hi' = none := by cases hi' <;> simp_all
 obtain rfl : mx = none := by cases mx <;> simp_all
 obtain ⟨b, rfl⟩ := Option.isSome_iff_exists.1 q1
 obtain ⟨v1, _, e1, h4, v2, _, e2, h5, e3⟩ := hvs
 obtain rfl := h1 _ _ h4
 obtain rfl := h2 _ _ h5
 subst e2
 simp only [Option.toList, List.cons_append, List.nil_append, List.append_nil, List.map_cons, List.map_nil, List.cons.injEq] at e1
 obtain ⟨ea, eb, _⟩ := e1
 refine ⟨_, w, ?_, h3 w, Below.refl _ _⟩
 have hr := run_slice_string_from_if (P := Tryz.prog) w 9 ⟨l.toArray⟩ .i64 (i : Int) und_str
 rw [if_pos ⟨by omega, by show (i : Int) ≤ ((l.length : Nat) : Int); omega⟩] at hr
 have hx : (⟨l.toArray⟩ : ByteArray).extract ((i : Int)).toNat (⟨l.toArray⟩ : ByteArray).size = ⟨(l.drop i).toArray⟩ := extract_drop l i
 rw [hx] at hr
 show (execOp ρ oo).run Tryz.prog w = _
 simp only [execOp, hop, ea, eb, Sem.run_bind, Option.map_none, Option.map_some, run_sliceAt_string _ _ _ _ _ _ und_str, hr, Result.andThen_ok]
 rfl
end
theorem at_retc {C : Ctx} {a : Act} {w : World} {fn : Func} {t ty s : Nat} {gs : List Grp} {q : jQ} {l : List Item} {d : TypeDesc} {inf : TypeInfo} (hr : fn.results = #[.cell t ty, .tmp s]) (hd : C.P.underlying ty = some d) (hag : isAggD d = true) (hi : C.P.info? ty = some inf) (hA : At C (.box t ty gs :: .val s q :: l) a w) (hlen : ∀ vs, jL C w gs vs → vs.length = inf.size)
 {Q : Ending → World → Prop} (h : ∀ vs u, jL C w gs vs → q.is C w u → Q (.returned (.tuple #[.agg vs.toArray, u])) w) : bodyPost C.P fn Q .ret a w := by
 obtain ⟨k, vs, h1, _, _, h3, h4, ⟨u, h5, h6⟩, _⟩ := hA.items
 refine ⟨hA.defers, .tuple #[.agg vs.toArray, u], ?_, h vs u h4 h6⟩
 rw [results_eq, hr]
 have e1 : a.tmps.getD t undef = .pointer (some ⟨k, 0, none⟩) := by rw [Array.getD_eq_getD_getElem?, h1]; rfl
 have e2 : a.tmps.getD s undef = u := by rw [Array.getD_eq_getD_getElem?, h5]; rfl
 have hl := run_loadCells_list (P := C.P) (w := w) ⟨k, 0, none⟩ vs (fun j v hj => by rw [jo, Nat.zero_add]; simpa [World.cell?, h3] using hj)
 rw [hlen vs h4] at hl
 have hv : (loadVar ty ⟨k, 0, none⟩).run C.P w = .ok (.agg vs.toArray) w := by simp [loadVar, jW hd, hag, jP hi, hl]
 simp [resF, e1, e2, asAddr, hv]
theorem und_ratT : Tryz.prog.underlying 33 = some (match Tryz.prog.underlying 33 with | some d => d | none => .bool) := by kernel_rfl
theorem info_ratT : (Tryz.prog.info? 33).map (fun i => i.size) = some 3 := by kernel_rfl
theorem take_while (T : List UInt8) : ∀ (i : Nat), (∀ c ∈ T.take i, c ≠ 47) → (T.length ≤ i ∨ T.getD i 0 = 47) → T.takeWhile (· != 47) = T.take i ∧ T.dropWhile (· != 47) = T.drop i := by
 induction T with
 | nil => intro i _ _; simp
 | cons c T ih =>
  intro i h1 h2
  cases i with
  | zero =>
   have : c = 47 := by
    rcases h2 with h | h
    · simp at h
    · simpa using h
   subst this
   simp
  | succ i =>
   have hc : c ≠ 47 := h1 c (by simp)
   have := ih i (fun x hx => h1 x (by simp [hx])) (by
    rcases h2 with h | h
    · exact .inl (by simpa using h)
    · exact .inr (by simpa using h))
   simp [hc, this.1, this.2]
theorem signed_mk (neg : Bool) (m n : Nat) : signed neg m * ((n : Nat) : Rat)⁻¹ = mkRat (sgn neg m) n := by
 rw [Rat.mkRat_eq_div, Rat.div_def]
 congr 1
 unfold signed sgn
 split
 · rw [Rat.intCast_neg]; rfl
 · rfl
theorem dval_siz1 {l : List UInt8} {k n : Nat} (h : l.all jC = true) (hl : l.length ≤ k) (hk : k ≤ 19 * n) : cO l < B ^ n :=
 Nat.lt_of_lt_of_le (Nat.lt_of_lt_of_le (dval_lt l (List.all_eq_true.1 h)) (Nat.pow_le_pow_right (by omega) hl)) (pow_ten_lt hk)
theorem dval_siz2 {l : List UInt8} (h : l.all jC = true) (hl : l.length ≤ 4000) : cO l < B ^ 220 := dval_siz1 h hl (by omega)
theorem mk_siz {neg : Bool} {m n k : Nat} (hn : 0 < n) (h1 : m < B ^ k) (h2 : n < B ^ k) : cB (mkRat (sgn neg m) n) k := by
 obtain ⟨e1, e2, _⟩ := mk_parts neg (m := m) hn
 refine ⟨?_, ?_⟩
 · rw [e1]; exact Nat.lt_of_le_of_lt (Nat.div_le_self _ _) h1
 · rw [e2]; exact Nat.lt_of_le_of_lt (Nat.div_le_self _ _) h2
def RdS (w0 : World) (l T : List UInt8) (neg : Bool) (i : Nat) (a : Act) (w : World) : Prop := Below w0.heap.size w0 w ∧ a.defers = [] ∧ a.tmps.size = 81 ∧ ∃ b, a.tmps[2]? = some (.pointer (some ⟨b, 0, none⟩)) ∧ w0.heap.size ≤ b ∧ w.heap[b]? = some (.cells #[.bool false, .slice none 0 0, .slice none 0 0] 33 (0, 0)) ∧ a.tmps[0]? = some (je l) ∧ a.tmps[4]? = some (je T) ∧ a.tmps[5]? = some (.bool neg) ∧ a.tmps[6]? = some (ii (i : Int))
def zr : List Grp := [.lit (.bool false), .lit (.slice none 0 0), .lit (.slice none 0 0)]
section
variable {csz : List Nat} {numc : List Bool} {okT : List Nat} {cl : List Cl} {w0 : World} {w : World} {p0 p4 p5 p6 : jQ} {neg : Bool} {l T : List UInt8} {i : Nat} {a : Act}
theorem at_rds (h : At (mkC csz numc okT 81 cl w0) [.box 2 33 zr, .val 0 p0, .val 4 p4, .val 5 p5, .val 6 p6] a w) (h0 : ∀ w v, p0.is (mkC csz numc okT 81 cl w0) w v → v = je l) (h4 : ∀ w v, p4.is (mkC csz numc okT 81 cl w0) w v → v = je T) (h5 : ∀ w v, p5.is (mkC csz numc okT 81 cl w0) w v → v = .bool neg) (h6 : ∀ w v, p6.is (mkC csz numc okT 81 cl w0) w v → v = ii (i : Int)) : RdS w0 l T neg i a w := by
 obtain ⟨b, vs, q1, q2, _, q3, ⟨xs, ys, rfl, rfl, xs2, ys2, rfl, rfl, xs3, ys3, rfl, rfl, e5⟩, ⟨v0, q4, q5⟩, ⟨v4, q6, q7⟩, ⟨v5, q8, q9⟩, ⟨v6, q10, q11⟩, _⟩ := h.items
 rw [show ys3 = [] from e5] at q3
 rw [h0 _ _ q5] at q4
 rw [h4 _ _ q7] at q6
 rw [h5 _ _ q9] at q8
 rw [h6 _ _ q11] at q10
 exact ⟨h.below, h.defers, h.size, b, q1, q2.1, q3, q4, q6, q8, q10⟩
theorem rds_at (h : RdS w0 l T neg i a w) (h0 : p0.is (mkC csz numc okT 81 cl w0) w (je l)) (h4 : p4.is (mkC csz numc okT 81 cl w0) w (je T)) (h5 : p5.is (mkC csz numc okT 81 cl w0) w (.bool neg)) (h6 : p6.is (mkC csz numc okT 81 cl w0) w (ii (i : Int))) (hL : cl.flatMap (·.L) = [] := by rfl) : At (mkC csz numc okT 81 cl w0) [.box 2 33 zr, .val 0 p0, .val 4 p4, .val 5 p5, .val 6 p6] a w := by
 obtain ⟨g1, g2, g3, b, q1, q2, q3, q4, q5, q6, q7⟩ := h
 exact ⟨g1, g2, g3, ⟨b, [.bool false, .slice none 0 0, .slice none 0 0], q1, ⟨q2, fun hk => noL hL hk⟩, by simp, q3, ⟨[.bool false], [.slice none 0 0, .slice none 0 0], rfl, rfl, [.slice none 0 0], [.slice none 0 0], rfl, rfl, [.slice none 0 0], [], rfl, rfl, rfl⟩, ⟨_, q4, h0⟩, ⟨_, q5, h4⟩, ⟨_, q6, h5⟩, ⟨_, q7, h6⟩, trivial⟩, fun k hk => noL hL hk⟩
end
noncomputable def b_read : Code := bodyOf Tryz.f12
noncomputable def x_read : Code := cq (cq (cq (cq (cq b_read))))
noncomputable def l_read : Code := cP (cP (cI x_read))
def RRead (w : World) (l : List UInt8) (e : Ending) (w' : World) : Prop := ∃ v, e = .returned (.tuple #[v, .int .i64 (jw l).2]) ∧ RQ w' v (jw l).1 ∧ Below w.heap.size w w'
abbrev cl_r0 (l : List UInt8) : List Cl := [jm (je l), jm (je (l.drop 1)), jm (ii (l.length : Int)), jm (.int .u8 (((l.getD 0 0).toNat : Nat) : Int)), cN ((0 : Int) : Rat) 220]
noncomputable abbrev C_r0 (l : List UInt8) (w : World) : Ctx := mkC [1, 1, 1, 1, 3] [true, true, true, true, true] [33] 81 (cl_r0 l) w
theorem r0_C (l : List UInt8) (w : World) : (C_r0 l w).Ok := cL (cb (jD _) (cb (jD _) (cb (cu _) (cb (clV_ok rfl) (cb (co jx _ _) cD))))) rfl rfl
def t_r0 (b1 b2 : Bool) : List cW := [⟨.blt .len [9] 3, [op 0], .val (op 2)⟩, ⟨.bin .gtr 3, [op 2, vp (ii 4000)], .val (vp (.bool b1))⟩, ⟨.bin .gtr 3, [op 2, vp (ii 0)], .val (vp (.bool b2))⟩, ⟨.call 16, [vp (ii 0)], .val (rq 4)⟩]
theorem r0_T (l : List UInt8) (w : World) {b1 b2 : Bool} (h1 : decide (4000 < l.length) = b1) (h2 : decide (0 < l.length) = b2) : ∀ t ∈ t_r0 b1 b2, t.Valid (C_r0 l w) :=
 ca (e_slen rfl (pv rfl) (rv rfl)) (ca (kw (pv rfl) jR (by rw [← h1]; congr 1; apply propext; omega)) (ca (kw (pv rfl) jR (by rw [← h2]; congr 1; apply propext; omega)) (ca (e_rint (by decide) (by decide) rfl (by decide)) ce)))
def t_r1 (b : Bool) : List cW := [⟨.si 9, [op 0, vp (ii 0)], .val (op 3)⟩, ⟨.bin .eql 5, [op 3, vp (.int .u8 45)], .val (vp (.bool b))⟩, ⟨.sl 9 true false false, [op 0, vp (ii 1)], .val (op 1)⟩]
theorem r1_T (l : List UInt8) (w : World) (hl : 0 < l.length) {b : Bool} (h : decide ((l.getD 0 0).toNat = 45) = b) : ∀ t ∈ t_r1 b, t.Valid (C_r0 l w) :=
 ca (e_six (i := 0) hl rfl (pv rfl) jR (rv rfl)) (ca (e_eql (pv rfl) jR (by rw [← h]; congr 1; apply propext; omega)) (ca (e_sfrom (i := 1) hl (pv rfl) jR (rv rfl)) ce))
theorem t_app {C : Ctx} {l1 l2 : List cW} (h1 : ∀ t ∈ l1, t.Valid C) (h2 : ∀ t ∈ l2, t.Valid C) : ∀ t ∈ l1 ++ l2, t.Valid C := fun t ht => (List.mem_append.1 ht).elim (h1 t) (h2 t)
theorem read_long (l : List UInt8) (w : World) (h : 4000 < l.length) : Calls Tryz.prog 12 #[je l] w (RRead w l) := by
 refine (cM (r0_C l w) (r0_T l w (decide_eq_true h) rfl) 12 Tryz.f12 [op 0] (.tup [rq 4, vp (ii 5)]) 60 Tryz.func12 rfl rfl rfl (by kernel_rfl) [je l] ⟨_, _, rfl, (jA rfl).2 rfl, rfl⟩).mono ?_
 rintro e w' ⟨v, rfl, ⟨vs, ⟨v1, _, rfl, g1, v2, _, rfl, g2, rfl⟩, rfl⟩, hb⟩
 obtain rfl := kp.1 g2
 have hr : jw l = (0, 5) := by unfold jw; rw [if_pos h]
 unfold RRead
 rw [hr]
 exact ⟨v1, rfl, ((ji rfl).1 g1).1, hb⟩
abbrev cl_rl (l T : List UInt8) (i : Nat) (NA NB : List Nat) (x : Rat) : List Cl := [jm (je l), jm (je T), jm (ii (i : Int)), jm (ii (T.length : Int)), jm (.int .u8 (((T.getD i 0).toNat : Nat) : Int)), jm (ii ((i + 1 : Nat) : Int)), jm (je (T.take i)), jm (je (T.drop (i + 1))), ko NA, ko NB, ko (digs 1), cN ((0 : Int) : Rat) 220, cN x 220, jm (je (jv x)), jm (ii (NB.length : Int))]
noncomputable abbrev C_rl (l T : List UInt8) (i : Nat) (NA NB : List Nat) (x : Rat) (w : World) : Ctx := mkC [1, 1, 1, 1, 1, 1, 1, 1, 1, 1, 1, 3, 3, 1, 1] [true, true, true, true, true, true, true, true, false, false, false, true, true, true, true] [33] 81 (cl_rl l T i NA NB x) w
theorem rl_C (l T : List UInt8) (i : Nat) (NA NB : List Nat) (x : Rat) (w : World) : (C_rl l T i NA NB x w).Ok := cL (cb (jD _) (cb (jD _) (cb (cu _) (cb (cu _) (cb (clV_ok rfl) (cb (cu _) (cb (jD _) (cb (jD _) (cb (cF jx _) (cb (cF jx _) (cb (cF jx _) (cb (co jx _ _) (cb (co jx _ _) (cb (jD _) (cb (cu _) cD))))))))))))))) rfl rfl
def t_rA (b : Bool) : List cW := [⟨.blt .len [9] 3, [op 1], .val (op 3)⟩, ⟨.bin .lss 3, [op 2, op 3], .val (vp (.bool b))⟩, ⟨.bin .add 3, [op 2, vp (ii 1)], .val (op 5)⟩]
def t_rB (b : Bool) : List cW := [⟨.si 9, [op 1, op 2], .val (op 4)⟩, ⟨.bin .neq 5, [op 4, vp (.int .u8 47)], .val (vp (.bool b))⟩]
def t_rC (ok : Bool) : List cW := [⟨.sl 9 false true false, [op 1, op 2], .val (op 6)⟩, ⟨.call 81, [op 6], .tup [op 8, vp (.bool ok)]⟩, ⟨.bs 31 1, [vp (ii 1)], .val (op 10)⟩, ⟨.call 16, [vp (ii 0)], .val (rq 11)⟩, ⟨.blt .len [31] 3, [op 10], .val (vp (ii 1))⟩]
def t_rD (ok e : Bool) : List cW := [⟨.sl 9 true false false, [op 1, op 5], .val (op 7)⟩, ⟨.call 81, [op 7], .tup [op 9, vp (.bool ok)]⟩, ⟨.blt .len [31] 3, [op 9], .val (op 14)⟩, ⟨.bin .eql 3, [op 14, vp (ii 0)], .val (vp (.bool e))⟩]
def t_rE (s : Bool) (c : Nat) (e : Bool) : List cW := [⟨.call 82, [vp (.bool s), op 8, op c], .val (rq 12)⟩, ⟨.call 83, [rq 12], .val (op 13)⟩, ⟨.bin .neq 9, [op 13, op 0], .val (vp (.bool e))⟩]
section
variable {l T : List UInt8} {i : Nat} {NA NB : List Nat} {x : Rat} {w : World}
theorem rA_T {b : Bool} (hi : i < 100000) (h : decide (i < T.length) = b) : ∀ t ∈ t_rA b, t.Valid (C_rl l T i NA NB x w) :=
 ca (e_slen rfl (pv rfl) (rv rfl)) (ca (kj (pv rfl) (pv rfl) (by rw [← h]; congr 1; apply propext; omega)) (ca (e_add (by omega) (pv rfl) jR (rv rfl) (by omega)) ce))
theorem rB_T {b : Bool} (hi : i < T.length) (h : decide (T.getD i 0 ≠ 47) = b) : ∀ t ∈ t_rB b, t.Valid (C_rl l T i NA NB x w) :=
 ca (e_six hi rfl (pv rfl) (pv rfl) (rv rfl)) (ca (e_neqk (pv rfl) jR (by
  rw [← h]
  by_cases h0 : T.getD i 0 = 47
  · rw [h0]; rfl
  · have : (T.getD i 0).toNat ≠ 47 := fun e => h0 (UInt8.toNat_inj.1 (by rw [e]; rfl))
    rw [decide_eq_true h0]
    exact bne_iff_ne.2 (fun e => this (by omega)))) ce)
theorem rC_T {ok : Bool} (hi : i ≤ T.length) (hl : T.length < 100000) (hN : (if (T.take i).all jC then digs (cO (T.take i)) else []) = NA) (hok : ki (T.take i) = ok) : ∀ t ∈ t_rC ok, t.Valid (C_rl l T i NA NB x w) :=
 ca (e_sto hi (pv rfl) (pv rfl) (rv rfl)) (ca (e_natural (by rw [List.length_take]; omega) (pv rfl) hN hok rfl) (ca (e_bs1 (x := 1) jR (rd (by rw [← digs_one]; rfl))) (ca (e_rint (by decide) (by decide) rfl (by decide)) (ca (e_len cU (pd rfl) (by rw [digs_one]; exact rvl)) ce))))
theorem rD_T {ok e : Bool} (hi : i < T.length) (hl : T.length < 100000) (hN : (if (T.drop (i + 1)).all jC then digs (cO (T.drop (i + 1))) else []) = NB) (hok : ki (T.drop (i + 1)) = ok) (he : decide (NB.length = 0) = e) : ∀ t ∈ t_rD ok e, t.Valid (C_rl l T i NA NB x w) :=
 ca (e_sfrom hi (pv rfl) (pv rfl) (rv rfl)) (ca (e_natural (by rw [List.length_drop]; omega) (pv rfl) hN hok rfl) (ca (e_len cU (pd rfl) (rv rfl)) (ca (e_eql (pv rfl) jR (by rw [← he]; congr 1; apply propext; omega)) ce)))
theorem rE_T {s e : Bool} {m n c : Nat} (hA : NA = digs m) (hc : PD [1, 1, 1, 1, 1, 1, 1, 1, 1, 1, 1, 3, 3, 1, 1] [true, true, true, true, true, true, true, true, false, false, false, true, true, true, true] [33] 81 (cl_rl l T i NA NB x) w (op c) (digs n)) (hn : 0 < n) (hm : m < B ^ 220) (hn2 : n < B ^ 220) (hx : x = mkRat (sgn s m) n) (he : (!decide (jv x = l)) = e) : ∀ t ∈ t_rE s c e, t.Valid (C_rl l T i NA NB x w) := by
 have h1 := jl hm
 have h2 := jl hn2
 subst hA
 exact ca (e_makeq jR (pd rfl) hc hn (by omega) (by omega) hx (by rw [hx]; exact mk_siz hn hm hn2) rfl) (ca (e_texta (pr rfl) (by decide) (rv rfl)) (ca (e_neqs (pv rfl) (pv rfl) he) ce))
end
theorem read_fin (neg : Bool) (l T : List UInt8) (i : Nat) (w : World) (hl : l.length ≤ 4000) (hT : T = jV l) (hm : jp l = neg) (hi : i ≤ T.length) (htake : ∀ c ∈ T.take i, c ≠ 47) (hend : T.length ≤ i ∨ T.getD i 0 = 47) (a1 : Act) (w1 : World) (hR : RdS w l T neg i a1 w1) : (cq x_read).wp Tryz.prog (bodyPost Tryz.prog Tryz.f12 (RRead w l)) a1 w1 := by
 have hTl : T.length ≤ 4000 := by
  have := restOf_len l
  rw [← hT] at this
  omega
 obtain ⟨inf, hinf, hsz⟩ := Option.map_eq_some_iff.1 info_ratT
 obtain ⟨t1, t2⟩ := take_while T i htake hend
 have hab : jK l = T.take i := by unfold jK; rw [← hT]; exact t1
 have hlen3 : ∀ {C : Ctx} {w : World} {c : Nat} vs, jL C w [.cls c 3] vs → vs.length = inf.size := by
  rintro C w c vs ⟨xs, ys, rfl, ⟨f, _, rfl⟩, hy⟩
  rw [show ys = [] from hy, hsz]
  rfl
 have cells : ∀ {NA NB : List Nat} {x : Rat} {c : Nat} {r : Rat} {k : Nat} {w' : World} vs, (cl_rl l T i NA NB x)[c]? = some (cN r k) → jL (C_rl l T i NA NB x w) w' [.cls c 3] vs → RQ w' (.agg vs.toArray) r := by
  intro NA NB x c r k w' vs hc h
  exact ((ji hc).1 ⟨vs, h, rfl⟩).1
 have at0 : ∀ (NA NB : List Nat) (x : Rat), At (C_rl l T i NA NB x w) [.box 2 33 zr, .val 0 (op 0), .val 4 (op 1), .val 5 (vp (.bool neg)), .val 6 (op 2)] a1 w1 := fun NA NB x => rds_at hR ((jA rfl).2 rfl) ((jA rfl).2 rfl) (kp.2 rfl) ((jA rfl).2 rfl)
 have bad : ∀ {NA NB : List Nat} {x : Rat} {Tb : List cW}, (∀ t ∈ Tb, t.Valid (C_rl l T i NA NB x w)) → jw l = (0, 4) → segB (C_rl l T i NA NB x w).toStat Tb 60 (cq x_read) [.box 2 33 zr, .val 0 (op 0), .val 4 (op 1), .val 5 (vp (.bool neg)), .val 6 (op 2)] .ret [.box 2 33 [.cls 11 3], .val 3 (vp (ii 4))] = true → (cq x_read).wp Tryz.prog (bodyPost Tryz.prog Tryz.f12 (RRead w l)) a1 w1 := by
  intro NA NB x Tb hTb hq hrun
  refine cE (rl_C _ _ _ _ _ _ _) hTb hrun (at0 NA NB x) (fun a2 w2 hA => at_retc (C := C_rl l T i NA NB x w) (fn := Tryz.f12) (t := 2) (ty := 33) (s := 3) rfl und_ratT (by cases neg <;> kernel_rfl) hinf hA (fun vs h => hlen3 vs h) (fun vs u h1 h2 => ?_))
  obtain rfl := kp.1 h2
  unfold RRead
  rw [hq]
  exact ⟨_, rfl, cells vs rfl h1, hA.below⟩
 have good : ∀ {NA NB : List Nat} {x : Rat} {Tb : List cW}, (∀ t ∈ Tb, t.Valid (C_rl l T i NA NB x w)) → jw l = (x, 0) → segB (C_rl l T i NA NB x w).toStat Tb 60 (cq x_read) [.box 2 33 zr, .val 0 (op 0), .val 4 (op 1), .val 5 (vp (.bool neg)), .val 6 (op 2)] .ret [.box 2 33 [.cls 12 3], .val 3 (vp (ii 0))] = true → (cq x_read).wp Tryz.prog (bodyPost Tryz.prog Tryz.f12 (RRead w l)) a1 w1 := by
  intro NA NB x Tb hTb hq hrun
  refine cE (rl_C _ _ _ _ _ _ _) hTb hrun (at0 NA NB x) (fun a2 w2 hA => at_retc (C := C_rl l T i NA NB x w) (fn := Tryz.f12) (t := 2) (ty := 33) (s := 3) rfl und_ratT (by cases neg <;> kernel_rfl) hinf hA (fun vs h => hlen3 vs h) (fun vs u h1 h2 => ?_))
  obtain rfl := kp.1 h2
  unfold RRead
  rw [hq]
  exact ⟨_, rfl, cells vs rfl h1, hA.below⟩
 have hnl : ¬ 4000 < l.length := by omega
 have hit : i < 100000 := by omega
 have okAll : ∀ {b : List UInt8}, ki b = true → b.all jC = true := by
  intro b h
  unfold ki at h
  simp only [Bool.and_eq_true] at h
  exact h.2
 by_cases hs : i < T.length
 · -- a slash
   have hbe : cV l = T.drop (i + 1) := by
    unfold cV
    rw [← hT, t2]
    have : T.drop i = T[i] :: T.drop (i + 1) := List.drop_eq_getElem_cons hs
    rw [this]
    rfl
   cases ok1 : ki (T.take i) with
   | false =>
    have hq : jw l = (0, 4) := jY hnl (by unfold jU; rw [hab, ok1]; rfl)
    cases ok2 : ki (T.drop (i + 1)) <;>
     exact bad (x := 0) (t_app (rA_T hit (decide_eq_true hs)) (t_app (rC_T hi (by omega) rfl ok1) (rD_T hs (by omega) rfl ok2 rfl))) hq (by cases neg <;> kernel_rfl)
   | true =>
    have hAd := okAll ok1
    cases ok2 : ki (T.drop (i + 1)) with
    | false =>
     have hq : jw l = (0, 4) := jY hnl (by unfold jU; rw [hab, hbe, ok1, ok2]; rfl)
     exact bad (x := 0) (t_app (rA_T hit (decide_eq_true hs)) (t_app (rC_T hi (by omega) rfl ok1) (rD_T hs (by omega) rfl ok2 rfl))) hq (by cases neg <;> kernel_rfl)
    | true =>
     have hBd := okAll ok2
     by_cases hz : cO (T.drop (i + 1)) = 0
     · have hq : jw l = (0, 4) := jY hnl (by unfold jU; rw [hab, hbe, ok1, ok2, hz]; rfl)
       exact bad (x := 0) (t_app (rA_T hit (decide_eq_true hs)) (t_app (rC_T hi (by omega) rfl ok1) (rD_T (e := true) (NB := []) hs (by omega) (by rw [if_pos hBd, hz, digs_zero]) ok2 rfl))) hq (by cases neg <;> kernel_rfl)
     · have hp : jU l = some (mkRat (sgn neg (cO (T.take i))) (cO (T.drop (i + 1)))) := by
        unfold jU
        rw [hab, hbe, ok1, ok2, hm, signed_mk]
        simp [hz]
       have hn0 : 0 < cO (T.drop (i + 1)) := by omega
       have hq := readQ_some hnl hp
       have hlz : decide ((digs (cO (T.drop (i + 1)))).length = 0) = false := by
        have := digs_pos_len.2 hz
        exact decide_eq_false (by omega)
       have base := fun (x : Rat) => t_app (rA_T (l := l) (x := x) (w := w) hit (decide_eq_true hs)) (t_app (rC_T (NB := digs (cO (T.drop (i + 1)))) hi (by omega) (if_pos hAd) ok1) (rD_T hs (by omega) (if_pos hBd) ok2 hlz))
       have s1 := dval_siz2 hAd (by rw [List.length_take]; omega)
       have s2 := dval_siz2 hBd (by rw [List.length_drop]; omega)
       by_cases he : jv (mkRat (sgn neg (cO (T.take i))) (cO (T.drop (i + 1)))) = l
       · rw [if_pos he] at hq
         exact good (t_app (base _) (rE_T (s := neg) (e := false) (c := 9) rfl (pd rfl) hn0 s1 s2 rfl (by simp [he]))) hq (by cases neg <;> kernel_rfl)
       · rw [if_neg he] at hq
         exact bad (t_app (base _) (rE_T (s := neg) (e := true) (c := 9) rfl (pd rfl) hn0 s1 s2 rfl (by simp [he]))) hq (by cases neg <;> kernel_rfl)
 · have hbe : cV l = [49] := by
    unfold cV
    rw [← hT, t2, List.drop_eq_nil_of_le (by omega)]
    rfl
   have k49 : ki [49] = true := rfl
   have d49 : cO [49] = 1 := rfl
   cases ok1 : ki (T.take i) with
   | false =>
    have hq : jw l = (0, 4) := jY hnl (by unfold jU; rw [hab, ok1]; rfl)
    exact bad (x := 0) (NB := []) (t_app (rA_T hit (decide_eq_false hs)) (rC_T hi (by omega) rfl ok1)) hq (by cases neg <;> kernel_rfl)
   | true =>
    have hAd := okAll ok1
    have hp : jU l = some (mkRat (sgn neg (cO (T.take i))) 1) := by
     unfold jU
     rw [hab, hbe, ok1, k49, hm, d49, signed_mk]
     rfl
    have hq := readQ_some hnl hp
    have base := fun (x : Rat) => t_app (rA_T (l := l) (x := x) (NB := []) (w := w) hit (decide_eq_false hs)) (rC_T hi (by omega) (if_pos hAd) ok1)
    have s1 := dval_siz2 hAd (by rw [List.length_take]; omega)
    have s2 : 1 < B ^ 220 := one_lt_pow (by decide)
    by_cases he : jv (mkRat (sgn neg (cO (T.take i))) 1) = l
    · rw [if_pos he] at hq
      exact good (t_app (base _) (rE_T (s := neg) (e := false) (c := 10) rfl (pd rfl) (by decide) s1 s2 rfl (by simp [he]))) hq (by cases neg <;> kernel_rfl)
    · rw [if_neg he] at hq
      exact bad (t_app (base _) (rE_T (s := neg) (e := true) (c := 10) rfl (pd rfl) (by decide) s1 s2 rfl (by simp [he]))) hq (by cases neg <;> kernel_rfl)
theorem read_loop (neg : Bool) (l : List UInt8) (w : World) (hl : l.length ≤ 4000) (hm : jp l = neg) (a : Act) (w1 : World) (hR : RdS w l (jV l) neg 0 a w1) : x_read.wp Tryz.prog (bodyPost Tryz.prog Tryz.f12 (RRead w l)) a w1 := by
 have hTl : (jV l).length ≤ 4000 := Nat.le_trans (restOf_len l) hl
 obtain ⟨T, hT⟩ : ∃ T, T = jV l := ⟨_, rfl⟩
 rw [← hT] at hR hTl
 show (Code.seq (.block 0 (.loop l_read)) (cq x_read)).wp Tryz.prog _ a w1
 refine wp_seq (jz (Θ := Nat) (fun i a w1 => i ≤ T.length ∧ (∀ c ∈ T.take i, c ≠ 47) ∧ RdS w l T neg i a w1) (fun i => T.length - i) ?_ 0 ⟨Nat.zero_le _, by simp, hR⟩)
 rintro i a w1 ⟨hi, htk, hR⟩
 have hA := rds_at (csz := [1, 1, 1, 1, 1, 1, 1, 1, 1, 1, 1, 3, 3, 1, 1]) (numc := [true, true, true, true, true, true, true, true, false, false, false, true, true, true, true]) (okT := [33]) (cl := cl_rl l T i [] [] 0) (p0 := op 0) (p4 := op 1) (p5 := vp (.bool neg)) (p6 := op 2) hR ((jA rfl).2 rfl) ((jA rfl).2 rfl) (kp.2 rfl) ((jA rfl).2 rfl)
 have back : ∀ {c j : Nat} {a' : Act} {w' : World}, (cl_rl l T i [] [] 0)[c]? = some (jm (ii (j : Int))) → At (C_rl l T i [] [] 0 w) [.box 2 33 zr, .val 0 (op 0), .val 4 (op 1), .val 5 (vp (.bool neg)), .val 6 (op c)] a' w' → RdS w l T neg j a' w' := fun hc hA => at_rds hA (fun w v hv => (jA rfl).1 hv) (fun w v hv => (jA rfl).1 hv) (fun w v hv => kp.1 hv) (fun w v hv => (jA hc).1 hv)
 by_cases hs : i < T.length
 · have hg : T.getD i 0 = T[i] := by simp [List.getD, hs]
   by_cases h47 : T.getD i 0 = 47
   · refine cE (rl_C _ _ _ _ _ _ _) (t_app (rA_T (by omega) (decide_eq_true hs)) (rB_T (b := false) hs (decide_eq_false (fun h => h h47)))) (x := .exit 0) (n := 30) (post := [.box 2 33 zr, .val 0 (op 0), .val 4 (op 1), .val 5 (vp (.bool neg)), .val 6 (op 2)]) (by cases neg <;> kernel_rfl) hA (fun a2 w2 hA => ?_)
     exact read_fin neg l T i w hl hT hm hi htk (.inr h47) a2 w2 (back rfl hA)
   · refine cE (rl_C _ _ _ _ _ _ _) (t_app (rA_T (by omega) (decide_eq_true hs)) (rB_T (b := true) hs (decide_eq_true h47))) (x := .normal) (n := 30) (post := [.box 2 33 zr, .val 0 (op 0), .val 4 (op 1), .val 5 (vp (.bool neg)), .val 6 (op 5)]) (by cases neg <;> kernel_rfl) hA (fun a2 w2 hA => ⟨i + 1, ⟨hs, ?_, back rfl hA⟩, by show T.length - (i + 1) < T.length - i; omega⟩)
     intro c hc
     rw [List.take_add_one, List.getElem?_eq_getElem hs] at hc
     rcases List.mem_append.1 hc with h | h
     · exact htk c h
     · have : c = T[i] := by simpa using h
       rw [this, ← hg]
       exact h47
 · refine cE (rl_C _ _ _ _ _ _ _) (rA_T (by omega) (decide_eq_false hs)) (x := .exit 0) (n := 30) (post := [.box 2 33 zr, .val 0 (op 0), .val 4 (op 1), .val 5 (vp (.bool neg)), .val 6 (op 2)]) (by cases neg <;> kernel_rfl) hA (fun a2 w2 hA => ?_)
   exact read_fin neg l T i w hl hT hm hi htk (.inl (by omega)) a2 w2 (back rfl hA)
theorem read_ok (l : List UInt8) (w : World) (hl : l.length ≤ 4000) : Calls Tryz.prog 12 #[je l] w (RRead w l) := by
 have hs : decide (4000 < l.length) = false := decide_eq_false (by omega)
 refine calls_at (C := C_r0 l w) (f := 12) (args := [op 0]) Tryz.func12 (c := .seq (cI b_read) (.seq (cI (cq b_read)) (.seq (cI (cq (cq b_read))) (.seq (cI (cq (cq (cq b_read)))) (.seq (cI (cq (cq (cq (cq b_read))))) x_read))))) rfl rfl (Nat.le_of_ble_eq_true rfl) (vs := [je l]) ⟨_, _, rfl, (jA rfl).2 rfl, rfl⟩ (fun a hA => ?_)
 refine wp_seq (cE (r0_C _ _) (T := []) ce (x := .normal) (n := 30) (post := [.box 2 33 zr, .val 0 (op 0)]) (by kernel_rfl) hA (fun a1 w1 hA => ?_))
 refine wp_seq (cE (r0_C _ _) (r0_T l w hs rfl) (x := .normal) (n := 30) (post := [.box 2 33 zr, .val 0 (op 0)]) (by kernel_rfl) hA (fun a2 w2 hA => ?_))
 refine wp_seq (cE (r0_C _ _) (T := []) ce (x := .normal) (n := 30) (post := [.box 2 33 zr, .val 0 (op 0), .val 4 (op 0), .val 5 (vp (.bool false))]) (by kernel_rfl) hA (fun a3 w3 hA => ?_))
 have more : ∀ {c : Nat} {s : Bool} {a : Act} {w1 : World}, (cl_r0 l)[c]? = some (jm (je (jV l))) → jp l = s → At (C_r0 l w) [.box 2 33 zr, .val 0 (op 0), .val 4 (op c), .val 5 (vp (.bool s)), .val 6 (vp (ii 0))] a w1 → x_read.wp Tryz.prog (bodyPost Tryz.prog Tryz.f12 (RRead w l)) a w1 := by
  intro c s a w1 hc hm hA
  have hR := at_rds (l := l) (T := jV l) (neg := s) (i := 0) hA (fun w v hv => (jA rfl).1 hv) (fun w v hv => (jA hc).1 hv) (fun w v hv => kp.1 hv) (fun w v hv => kp.1 hv)
  exact read_loop s l w hl hm a w1 hR
 by_cases h0 : 0 < l.length
 · have hg : l.getD 0 0 = l[0] := by simp [List.getD, h0]
   have hmi : jp l = decide ((l.getD 0 0).toNat = 45) := by
    unfold jp
    rw [hg]
    cases l with
    | nil => simp at h0
    | cons c l =>
     by_cases hc : c = 45
     · subst hc; rfl
     · have : ¬ c.toNat = 45 := fun e => hc (UInt8.toNat_inj.1 (by rw [e]; rfl))
       simp [hc, this]
   cases hm : decide ((l.getD 0 0).toNat = 45) with
   | true =>
    rw [hm] at hmi
    refine wp_seq (cE (r0_C _ _) (t_app (r0_T l w hs (decide_eq_true h0)) (r1_T l w h0 hm)) (x := .normal) (n := 30) (post := [.box 2 33 zr, .val 0 (op 0), .val 4 (op 1), .val 5 (vp (.bool true))]) (by kernel_rfl) hA (fun a4 w4 hA => ?_))
    refine wp_seq (cE (r0_C _ _) (T := []) ce (x := .normal) (n := 30) (post := [.box 2 33 zr, .val 0 (op 0), .val 4 (op 1), .val 5 (vp (.bool true)), .val 6 (vp (ii 0))]) (by kernel_rfl) hA (fun a5 w5 hA => ?_))
    exact more (c := 1) (by show some (jm (je (l.drop 1))) = _; unfold jV; rw [hmi]; simp) hmi hA
   | false =>
    rw [hm] at hmi
    refine wp_seq (cE (r0_C _ _) (t_app (r0_T l w hs (decide_eq_true h0)) (r1_T l w h0 hm)) (x := .normal) (n := 30) (post := [.box 2 33 zr, .val 0 (op 0), .val 4 (op 0), .val 5 (vp (.bool false))]) (by kernel_rfl) hA (fun a4 w4 hA => ?_))
    refine wp_seq (cE (r0_C _ _) (T := []) ce (x := .normal) (n := 30) (post := [.box 2 33 zr, .val 0 (op 0), .val 4 (op 0), .val 5 (vp (.bool false)), .val 6 (vp (ii 0))]) (by kernel_rfl) hA (fun a5 w5 hA => ?_))
    exact more (c := 0) (by show some (jm (je l)) = _; unfold jV; rw [hmi]; rfl) hmi hA
 · have hmi : jp l = false := by
    cases l with
    | nil => rfl
    | cons c l => simp at h0
   refine wp_seq (cE (r0_C _ _) (r0_T l w hs (decide_eq_false h0)) (x := .normal) (n := 30) (post := [.box 2 33 zr, .val 0 (op 0), .val 4 (op 0), .val 5 (vp (.bool false))]) (by kernel_rfl) hA (fun a4 w4 hA => ?_))
   refine wp_seq (cE (r0_C _ _) (T := []) ce (x := .normal) (n := 30) (post := [.box 2 33 zr, .val 0 (op 0), .val 4 (op 0), .val 5 (vp (.bool false)), .val 6 (vp (ii 0))]) (by kernel_rfl) hA (fun a5 w5 hA => ?_))
   exact more (c := 0) (by show some (jm (je l)) = _; unfold jV; rw [hmi]; rfl) hmi hA
theorem rread_any (l : List UInt8) (w : World) : Calls Tryz.prog 12 #[je l] w (RRead w l) := by
 by_cases h : 4000 < l.length
 · exact read_long l w h
 · exact read_ok l w (by omega)
end Sym
open Go Go.RowKit Go.Proofs Lim
namespace Sym
section
variable {csz : List Nat} {numc : List Bool} {okT : List Nat} {nt : Nat} {cl : List Cl} {w0 : World} {w : World} {v z : Value} {p1 p2 p3 p4 : jQ} {res : RPat} {c d c1 c2 c3 c4 c5 c6 : Nat} {a b l : List UInt8} {r s : Rat} {k k1 k2 k3 : Nat} {i j : Int}
theorem e_read (hG : Gr w0) (hl : l.length ≤ 100000) (h1 : PV csz numc okT nt cl w0 p1 (je l)) (hr : (jw l).1 = r) (hi : (jw l).2 = i) (z : cB r k) (h3 : cl[c3]? = some (clQ r k)) {q : jQ} (hq : ∀ w, q.is (mkC csz numc okT nt cl w0) w (ii i)) : V csz numc okT nt cl w0 (.call 11) [p1] (.tup [qp c3, q]) := by
 refine ⟨enters_of Tryz.func11 (by kernel_rfl) rfl, fun w vs hb hvs => ?_⟩
 obtain ⟨v1, _, rfl, h4, rfl⟩ := hvs
 obtain rfl := h1 _ _ h4
 refine (read_any l w hl (hG.below hb hG.size)).mono ?_
 rintro e w' ⟨v, rfl, hv, hb'⟩
 rw [hr] at hv
 rw [hi]
 exact ⟨_, rfl, ⟨_, ⟨_, _, rfl, (qp_is h3).2 ⟨hv, z⟩, _, _, rfl, hq w', rfl⟩, rfl⟩, hb'⟩
theorem e_rread (h1 : PV csz numc okT nt cl w0 p1 (je l)) (hr : (jw l).1 = r) (hi : (jw l).2 = i) (z : cB r k) (h3 : cl[c3]? = some (cN r k)) {q : jQ} (hq : ∀ w, q.is (mkC csz numc okT nt cl w0) w (ii i)) : V csz numc okT nt cl w0 (.call 12) [p1] (.tup [rq c3, q]) := by
 refine ⟨enters_of Tryz.func12 (by kernel_rfl) rfl, fun w vs hb hvs => ?_⟩
 obtain ⟨v1, _, rfl, h4, rfl⟩ := hvs
 obtain rfl := h1 _ _ h4
 refine (rread_any l w).mono ?_
 rintro e w' ⟨v, rfl, hv, hb'⟩
 rw [hr] at hv
 rw [hi]
 exact ⟨_, rfl, ⟨_, ⟨_, _, rfl, (ji h3).2 ⟨hv, z⟩, _, _, rfl, hq w', rfl⟩, rfl⟩, hb'⟩
end
end Sym
end Go.Proofs.YtccabfblgjcboaaGreatDoor
