/- ExactForms: for all texts the call returns true: the span of any linear form on a box, and of any quadratic on a span, is that of the document. No condition. -/
import Derived.Test.YtccabfblgjcboaaGreatDoorF32
set_option linter.all false

namespace Go.Proofs.YtccabfblgjcboaaGreatDoor
open Go Go.RowKit Go.Proofs Lim
namespace Sym
abbrev cOf (cs : List Rat) (i : Nat) : Rat := cs.getD (i % cs.length) 0
abbrev bOf (bs : List (Rat × Rat)) (i : Nat) : Rat × Rat := bs.getD i (0, 0)
abbrev qlo (cs : List Rat) (bs : List (Rat × Rat)) (i : Nat) : Rat := qLow (cOf cs i) (cOf cs (i + 1)) (cOf cs (i + 2)) (bOf bs i).1 (bOf bs i).2
abbrev qhi (cs : List Rat) (bs : List (Rat × Rat)) (i : Nat) : Rat := qHigh (cOf cs i) (cOf cs (i + 1)) (cOf cs (i + 2)) (bOf bs i).1 (bOf bs i).2
abbrev cl3 (B : Nat) (z5 z6 z10 z11 : Value) (cs : List Rat) (bs : List (Rat × Rat)) (i : Nat) : List Cl := [clO B sT 8 z10 (bs.map (elS 4)) dead, clO B tT 6 z11 (bs.map (elT 4)) dead, clO B qT 4 z5 (cs.map (elQ 4)) dead, clO B rT 3 z6 (cs.map (elR 4)) dead,
 clPO B qT 4 z5 (cs.map (elQ 4)) dead (i % cs.length * 4), clPO B qT 4 z5 (cs.map (elQ 4)) dead ((i + 1) % cs.length * 4), clPO B qT 4 z5 (cs.map (elQ 4)) dead ((i + 2) % cs.length * 4), clPO B sT 8 z10 (bs.map (elS 4)) dead (i * 8),
 clPO B rT 3 z6 (cs.map (elR 4)) dead (i % cs.length * 3), clPO B rT 3 z6 (cs.map (elR 4)) dead ((i + 1) % cs.length * 3), clPO B rT 3 z6 (cs.map (elR 4)) dead ((i + 2) % cs.length * 3), clPO B tT 6 z11 (bs.map (elT 4)) dead (i * 6),
 jm (ii (i : Int)), jm (ii (cs.length : Int)), jm (ii (bs.length : Int)), jm (ii ((i % cs.length : Nat) : Int)), jm (ii ((i + 1 : Nat) : Int)), jm (ii (((i + 1) % cs.length : Nat) : Int)), jm (ii ((i + 2 : Nat) : Int)), jm (ii (((i + 2) % cs.length : Nat) : Int)),
 clQ (cOf cs i) 4, clQ (cOf cs (i + 1)) 4, clQ (cOf cs (i + 2)) 4, clQ (bOf bs i).1 4, clQ (bOf bs i).2 4, cN (cOf cs i) 4, cN (cOf cs (i + 1)) 4, cN (cOf cs (i + 2)) 4, cN (jZ (bOf bs i).1 (bOf bs i).2) 4, cN (ka (bOf bs i).1 (bOf bs i).2) 4,
 clQ (qlo cs bs i) 67, clQ (qhi cs bs i) 67, cN (qlo cs bs i) 67, cN (qhi cs bs i) 67,
 clQ (fLow cs bs cs.length) 200, clQ (fHigh cs bs cs.length) 200, cN (fLow cs bs cs.length) 200, cN (fHigh cs bs cs.length) 200, clQ 0 1]
section
variable {z5 z6 z10 z11 : Value} {i : Nat} {cs : List Rat} {bs : List (Rat × Rat)} {w : World}
noncomputable abbrev C3 (z5 z6 z10 z11 : Value) (cs : List Rat) (bs : List (Rat × Rat)) (i : Nat) (w : World) : Ctx := mkC [1, 1, 1, 1, 1, 1, 1, 1, 1, 1, 1, 1, 1, 1, 1, 1, 1, 1, 1, 1, 4, 4, 4, 4, 4, 3, 3, 3, 3, 3, 4, 4, 3, 3, 4, 4, 3, 3, 4] [false, false, false, false, true, true, true, true, true, true, true, true, true, true, true, true, true, true, true, true, true, true, true, true, true, true, true, true, true, true, true, true, true, true, true, true, true, true, true] okS 211 (cl3 w.heap.size z5 z6 z10 z11 cs bs i) w
theorem c3_ok (h5 : z5.oneCell' = true) (h6 : z6.oneCell' = true) (h10 : z10.oneCell' = true) (h11 : z11.oneCell' = true) : (C3 z5 z6 z10 z11 cs bs i w).Ok := by
 have pQ : ∀ {z : Value} {j : Nat} {g : Gw}, g ∈ (clPO w.heap.size qT 4 z (cs.map (elQ 4)) dead j).L → G4 cs bs dead dead g := fun hg => .inr (.inr (.inl ⟨(clPO_L hg).1, (clPO_L hg).2.1⟩))
 have pR : ∀ {z : Value} {j : Nat} {g : Gw}, g ∈ (clPO w.heap.size rT 3 z (cs.map (elR 4)) dead j).L → G4 cs bs dead dead g := fun hg => .inr (.inr (.inr ⟨(clPO_L hg).1, (clPO_L hg).2.1⟩))
 have pS : ∀ {z : Value} {j : Nat} {g : Gw}, g ∈ (clPO w.heap.size sT 8 z (bs.map (elS 4)) dead j).L → G4 cs bs dead dead g := fun hg => .inl (clPO_L hg)
 have pT : ∀ {z : Value} {j : Nat} {g : Gw}, g ∈ (clPO w.heap.size tT 6 z (bs.map (elT 4)) dead j).L → G4 cs bs dead dead g := fun hg => .inr (.inl (clPO_L hg))
 have hL : ∀ g ∈ (cl3 w.heap.size z5 z6 z10 z11 cs bs i).flatMap (·.L), G4 cs bs dead dead g :=
  mem_O (fun g hg => .inl (clO_L hg)) (mem_O (fun g hg => .inr (.inl (clO_L hg))) (mem_O (fun g hg => .inr (.inr (.inl ⟨(clO_L hg).1, (clO_L hg).2.1⟩))) (mem_O (fun g hg => .inr (.inr (.inr ⟨(clO_L hg).1, (clO_L hg).2.1⟩)))
   (mem_O (fun g hg => pQ hg) (mem_O (fun g hg => pQ hg) (mem_O (fun g hg => pQ hg) (mem_O (fun g hg => pS hg) (mem_O (fun g hg => pR hg) (mem_O (fun g hg => pR hg) (mem_O (fun g hg => pR hg) (mem_O (fun g hg => pT hg) (mem_R rfl))))))))))))
 have q := fun r k => clQ_ok (okT := okS) (B := w.heap.size) qrsT.1 r k
 have s := fun r k => co (okT := okS) (B := w.heap.size) qrsT.2 r k
 refine cL (cb (clO_ok sepS h10) <| cb (clO_ok sepS h11) <| cb (clO_ok sepS h5) <| cb (clO_ok sepS h6) <|
  cb (clPO_ok sepS) <| cb (clPO_ok sepS) <| cb (clPO_ok sepS) <| cb (clPO_ok sepS) <| cb (clPO_ok sepS) <| cb (clPO_ok sepS) <| cb (clPO_ok sepS) <| cb (clPO_ok sepS) <|
  cb (cu _) <| cb (cu _) <| cb (cu _) <| cb (cu _) <| cb (cu _) <| cb (cu _) <| cb (cu _) <| cb (cu _) <|
  cb (q _ _) <| cb (q _ _) <| cb (q _ _) <| cb (q _ _) <| cb (q _ _) <| cb (s _ _) <| cb (s _ _) <| cb (s _ _) <| cb (s _ _) <| cb (s _ _) <|
  cb (q _ _) <| cb (q _ _) <| cb (s _ _) <| cb (s _ _) <| cb (q _ _) <| cb (q _ _) <| cb (s _ _) <| cb (s _ _) <| cb (q _ _) cD) rfl rfl (.inr ?_)
 have gs := fun {j : Nat} => gr_P (B := w.heap.size) (z := z10) (ne := dead) (j := j) (fun g hg => imp1 (hL g hg).s)
 have gt := fun {j : Nat} => gr_P (B := w.heap.size) (z := z11) (ne := dead) (j := j) (fun g hg => imp1 (hL g hg).t)
 have gq := fun {j : Nat} => gr_P (B := w.heap.size) (z := z5) (ne := dead) (j := j) (fun g hg => (hL g hg).q)
 have gr := fun {j : Nat} => gr_P (B := w.heap.size) (z := z6) (ne := dead) (j := j) (fun g hg => (hL g hg).r)
 exact cj (gr_O (fun g hg => imp1 (hL g hg).s)) <| cj (gr_O (fun g hg => imp1 (hL g hg).t)) <| cj (gr_O (fun g hg => (hL g hg).q)) <| cj (gr_O (fun g hg => (hL g hg).r)) <|
  cj gq <| cj gq <| cj gq <| cj gs <| cj gr <| cj gr <| cj gr <| cj gt <|
  cj gr_V <| cj gr_V <| cj gr_V <| cj gr_V <| cj gr_V <| cj gr_V <| cj gr_V <| cj gr_V <|
  cj (gr_Q _ _) <| cj (gr_Q _ _) <| cj (gr_Q _ _) <| cj (gr_Q _ _) <| cj (gr_Q _ _) <| cj (gr_R _ _) <| cj (gr_R _ _) <| cj (gr_R _ _) <| cj (gr_R _ _) <| cj (gr_R _ _) <|
  cj (gr_Q _ _) <| cj (gr_Q _ _) <| cj (gr_R _ _) <| cj (gr_R _ _) <| cj (gr_Q _ _) <| cj (gr_Q _ _) <| cj (gr_R _ _) <| cj (gr_R _ _) <| cj (gr_Q _ _) grs_nil
theorem c3_R (i j : Nat) : ∀ k ∈ ((cl3 w.heap.size z5 z6 z10 z11 cs bs i).flatMap (·.L)).map (·.R), k ∈ ((cl3 w.heap.size z5 z6 z10 z11 cs bs j).flatMap (·.L)).map (·.R) := by
 intro k hk
 simp only [List.flatMap_cons, List.flatMap_nil, clO, clPO, jm, clQ, cN, List.map_append, List.map_map, List.mem_append, List.map_nil, List.append_nil, List.nil_append] at hk ⊢
 exact hk
end
theorem lim_P {w0 w : World} {t n j : Nat} {z : Value} {es : List (List Cl)} {ne : World → List Value → Prop} {cl : List Cl} (h : OwnL w0.heap.size t n w z es) (k : LimOk w0 w cl) : LimOk w0 w (clPO w0.heap.size t n z es ne j :: cl) := fun x hx g hg => by
 rcases List.mem_cons.1 hx with rfl | hx
 · simp only [clPO, List.mem_map, Option.mem_toList] at hg
   obtain ⟨b, hb, rfl⟩ := hg
   exact h.lt b hb
 · exact k x hx g hg
def t3a (b : Bool) : List cW := [⟨.blt .len [91] intT, [op 2], .val (op 13)⟩, ⟨.blt .len [93] intT, [op 0], .val (op 14)⟩, ⟨.bin .lss intT, [op 12, op 14], .val (vp (.bool b))⟩]
def t3b : List cW := [⟨.bin .gtr intT, [op 13, vp (ii 0)], .val (vp (.bool true))⟩, ⟨.bin .rem intT, [op 12, op 13], .val (op 15)⟩, ⟨.bin .add intT, [op 12, vp (ii 1)], .val (op 16)⟩, ⟨.bin .rem intT, [op 16, op 13], .val (op 17)⟩, ⟨.bin .add intT, [op 12, vp (ii 2)], .val (op 18)⟩, ⟨.bin .rem intT, [op 18, op 13], .val (op 19)⟩,
 ⟨.ix 91, [op 2, op 15], .val (op 4)⟩, ⟨.ix 91, [op 2, op 17], .val (op 5)⟩, ⟨.ix 91, [op 2, op 19], .val (op 6)⟩, ⟨.ix 93, [op 0, op 12], .val (op 7)⟩,
 ⟨.ix 92, [op 3, op 15], .val (op 8)⟩, ⟨.ix 92, [op 3, op 17], .val (op 9)⟩, ⟨.ix 92, [op 3, op 19], .val (op 10)⟩, ⟨.ix 94, [op 1, op 12], .val (op 11)⟩,
 ⟨.ld qT, [op 4], .val (qp 20)⟩, ⟨.ld qT, [op 5], .val (qp 21)⟩, ⟨.ld qT, [op 6], .val (qp 22)⟩, ⟨.ld sT, [op 7], .val (sp 23 24)⟩, ⟨.ld rT, [op 8], .val (rq 25)⟩, ⟨.ld rT, [op 9], .val (rq 26)⟩, ⟨.ld rT, [op 10], .val (rq 27)⟩, ⟨.ld tT, [op 11], .val (rsp 28 29)⟩,
 ⟨.call 70, [qp 20, qp 21, qp 22, sp 23 24], .val (sp 30 31)⟩, ⟨.call 71, [rq 25, rq 26, rq 27, rsp 28 29], .val (rsp 32 33)⟩, ⟨.call 46, [sp 30 31, rsp 32 33], .val (vp (.bool true))⟩]
def t3f : List cW := [⟨.call 68, [op 2, op 0], .tup [sp 34 35, vp (.int .i64 0)]⟩, ⟨.blt .len [91] intT, [op 2], .val (op 13)⟩, ⟨.blt .len [93] intT, [op 0], .val (op 14)⟩, ⟨.bin .gtr intT, [op 13, vp (ii 200)], .val (vp (.bool false))⟩, ⟨.bin .neq intT, [op 13, op 14], .val (vp (.bool false))⟩, ⟨.call 69, [op 3, op 1], .val (rsp 36 37)⟩, ⟨.call 46, [sp 34 35, rsp 36 37], .val (vp (.bool true))⟩]
def t3n5 : List cW := [⟨.call 68, [op 2, op 0], .tup [sp 38 38, vp (.int .i64 5)]⟩, ⟨.blt .len [91] intT, [op 2], .val (op 13)⟩, ⟨.bin .gtr intT, [op 13, vp (ii 200)], .val (vp (.bool true))⟩, ⟨.call 10, [], .val (vp (.bool true))⟩]
def t3n2 : List cW := [⟨.call 68, [op 2, op 0], .tup [sp 38 38, vp (.int .i64 2)]⟩, ⟨.blt .len [91] intT, [op 2], .val (op 13)⟩, ⟨.blt .len [93] intT, [op 0], .val (op 14)⟩, ⟨.bin .gtr intT, [op 13, vp (ii 200)], .val (vp (.bool false))⟩, ⟨.bin .neq intT, [op 13, op 14], .val (vp (.bool true))⟩, ⟨.call 10, [], .val (vp (.bool true))⟩]
def t3k : List cW := [⟨.call 10, [], .val (vp (.bool true))⟩]
noncomputable def x3_lf : Code := cI (jG 8 b_lf)
noncomputable def l3_lf : Code := cP (cP (cq x3_lf))
abbrev it3 : List Item := [.val 5 (op 2), .val 6 (op 3), .val 10 (op 0), .val 11 (op 1)]
section
variable {w : World} {v1 : Value} {cs : List Rat} {bs : List (Rat × Rat)}
set_option maxRecDepth 100000 in
set_option maxHeartbeats 1000000 in
theorem tail3 (hG : Gr w) (hN : cs.length ≤ 12 ∨ 200 < cs.length) (hN' : cs.length ≤ 1000) (hM : bs.length ≤ 1000) (zc : ∀ r ∈ cs, cB r 4) (zb : ∀ p ∈ bs, cB p.1 4 ∧ cB p.2 4) {i : Nat} {a : Act} {w1 : World} {z5 z6 z10 z11 : Value} (hS : S2 w v1 cs bs i z5 z6 z10 z11 a w1) :
 (jG 6 b_lf).wp Tryz.prog (bodyPost Tryz.prog Tryz.f8 (LF w)) a w1 := by
 have hC := fun i => c3_ok (i := i) (cs := cs) (bs := bs) (w := w) hS.o5.one hS.o6.one hS.o10.one hS.o11.one
 have hA : At (C3 z5 z6 z10 z11 cs bs 0 w) it3 a w1 := ⟨hS.below, hS.defers, hS.size, ⟨⟨_, hS.t5, (jn rfl).2 ⟨rfl, hS.o5⟩⟩, ⟨_, hS.t6, (jn rfl).2 ⟨rfl, hS.o6⟩⟩, ⟨_, hS.t10, (jn rfl).2 ⟨rfl, hS.o10⟩⟩, ⟨_, hS.t11, (jn rfl).2 ⟨rfl, hS.o11⟩⟩, trivial⟩,
  lim_at (lim_O hS.o10 (lim_O hS.o11 (lim_O hS.o5 (lim_O hS.o6 (lim_P hS.o5 (lim_P hS.o5 (lim_P hS.o5 (lim_P hS.o10 (lim_P hS.o6 (lim_P hS.o6 (lim_P hS.o6 (lim_P hS.o11 (lim_rest rfl)))))))))))))⟩
 have Lq : (cs.map (elQ 4)).length = cs.length := by simp
 have Lr : (cs.map (elR 4)).length = cs.length := by simp
 have Ls : (bs.map (elS 4)).length = bs.length := by simp
 have Lt : (bs.map (elT 4)).length = bs.length := by simp
 have lq : ∀ i, cW.Valid (C3 z5 z6 z10 z11 cs bs i w) ⟨.blt .len [91] intT, [op 2], .val (op 13)⟩ := fun i => e_lenZ und_qs (pzO rfl) (by rw [Lq]; exact rv rfl)
 have lsp : ∀ i, cW.Valid (C3 z5 z6 z10 z11 cs bs i w) ⟨.blt .len [93] intT, [op 0], .val (op 14)⟩ := fun i => e_lenZ und_sps (pzO rfl) (by rw [Ls]; exact rv rfl)
 have hret : ∀ {T : List cW} {c d : Nat} {x : Int}, (∀ t ∈ T, t.Valid (C3 z5 z6 z10 z11 cs bs 0 w)) → frontB (C3 z5 z6 z10 z11 cs bs 0 w).toStat T 60 1 (jG 6 b_lf) it3 (it3 ++ [.box 15 sT [.cls 38 4, .cls 38 4], .val 16 (vp (.int .i64 x))]) = true → segB (C3 z5 z6 z10 z11 cs bs 0 w).toStat T 60 (cI (jG 7 b_lf)) (it3 ++ [.box 15 sT [.cls 38 4, .cls 38 4], .val 16 (vp (.int .i64 x))]) .ret [.val 4 (vp (.bool true))] = true → (jG 6 b_lf).wp Tryz.prog (bodyPost Tryz.prog Tryz.f8 (LF w)) a w1 := by
  intro T c d x hT h1 h2
  refine front_is (hC 0) hT 60 1 _ h1 hA (fun a w1 hA => ?_)
  show (Code.seq (cI (jG 7 b_lf)) (jG 8 b_lf)).wp Tryz.prog _ _ _
  refine wp_seq (cE (hC 0) hT h2 hA (fun a w1 hA => ?_))
  exact (at_ret rfl hA (fun v hv => ⟨by rw [kp.1 hv], hA.below⟩) : bodyPost Tryz.prog Tryz.f8 (LF w) .ret a w1)
 rcases hN with hN | hN
 · by_cases hl : bs.length = cs.length
   · have zf := form_siz (by decide) zc zb cs.length
     have zl : cB (fLow cs bs cs.length) 200 := zf.1.le (by omega)
     have zh : cB (fHigh cs bs cs.length) 200 := zf.2.le (by omega)
     have hTf : ∀ t ∈ t3f, t.Valid (C3 z5 z6 z10 z11 cs bs 0 w) := ca (e_form (k := 4) hG (pzO rfl) (pzO rfl) hl (by omega) (by omega) zl zh rfl rfl) (ca (lq 0) (ca (lsp 0) (ca (kw (pv rfl) jR (decide_eq_false (by omega))) (ca (e_neq (pv rfl) (pv rfl) (decide_eq_false (by omega))) (ca (e_rform (k := 4) (pzO rfl) (pzO rfl) hl (by omega) (by omega) zc zb zl zh rfl rfl) (ca (e_sameSpan (ps rfl rfl) (prs rfl rfl) rfl rfl rfl) ce))))))
     refine front_is (hC 0) hTf 60 1 (it3 ++ [.box 15 sT [.cls 34 4, .cls 35 4], .val 16 (vp (.int .i64 0))]) (by kernel_rfl) hA (fun a w1 hA => ?_)
     show (Code.seq (cI (jG 7 b_lf)) (Code.seq (.seq (cI x3_lf) (.block 5 (.loop l3_lf))) (jG 9 b_lf))).wp Tryz.prog _ _ _
     refine wp_seq (cE (hC 0) hTf (n := 60) (x := .normal) (post := it3) (by kernel_rfl) hA (fun a w1 hA => ?_))
     refine wp_seq (wp_seq (cE (hC 0) (T := []) ce (n := 60) (x := .normal) (post := it3 ++ [.val 17 (vp (ii 0))]) (by kernel_rfl) hA (fun a w1 hA => ?_)))
     have hA := hA.turn (is' := it3 ++ [.val 17 (op 12)]) (fun h => by
      obtain ⟨g1, g2, g3, g4, ⟨u, g5, g6⟩, g7⟩ := h
      exact ⟨g1, g2, g3, g4, ⟨u, g5, (jA rfl).2 (kp.1 g6)⟩, g7⟩)
     refine rounds_at bs.length (cl3 w.heap.size z5 z6 z10 z11 cs bs) (it3 ++ [.val 17 (op 12)]) (it3 ++ [.val 17 (op 16)]) it3 [(2, 2), (3, 3), (0, 0), (1, 1), (12, 16)] (T := t3a true ++ t3b) (T' := t3a false) (n := 60) hC (fun i hi => ?_) (by kernel_rfl) (fun i _ => cH rfl (cH rfl (cH rfl (cH rfl (cH rfl prs_nil))))) (fun _ => rfl) rfl (fun i _ => c3_R (i + 1) i) (ca (lq _) (ca (lsp _) (ca (kj (pv rfl) (pv rfl) (decide_eq_false (by omega))) ce))) (by kernel_rfl) hA (fun a w1 hA => ?_)
     · have hN0 : 0 < cs.length := by omega
       have m := fun j => Nat.mod_lt j hN0
       have eq : ∀ j, (cs.map (elQ 4))[j % cs.length]? = some ([] ++ [clQ (cOf cs j) 4] ++ []) := fun j => map_getD (elQ 4) 0 (m j)
       have er : ∀ j, (cs.map (elR 4))[j % cs.length]? = some ([] ++ [cN (cOf cs j) 4] ++ []) := fun j => map_getD (elR 4) 0 (m j)
       have es : (bs.map (elS 4))[i]? = some ([] ++ [clQ (bOf bs i).1 4, clQ (bOf bs i).2 4] ++ []) := map_getD (elS 4) (0, 0) hi
       have et : (bs.map (elT 4))[i]? = some ([] ++ [cN (jZ (bOf bs i).1 (bOf bs i).2) 4, cN (ka (bOf bs i).1 (bOf bs i).2) 4] ++ []) := map_getD (elT 4) (0, 0) hi
       have zc' : ∀ j, cB (cOf cs j) 4 := fun j => by
        rw [show cOf cs j = cs[j % cs.length]'(m j) by unfold cOf; rw [List.getD_eq_getElem?_getD, List.getElem?_eq_getElem (m j)]; rfl]
        exact zc _ (List.getElem_mem _)
       have zb' : cB (bOf bs i).1 4 ∧ cB (bOf bs i).2 4 := by
        rw [show bOf bs i = bs[i]'hi by unfold bOf; rw [List.getD_eq_getElem?_getD, List.getElem?_eq_getElem hi]; rfl]
        exact zb _ (List.getElem_mem _)
       have zq := quad_ends_siz (zc' i) (zc' (i + 1)) (zc' (i + 2)) zb'.1 zb'.2
       exact t_app (ca (lq _) (ca (lsp _) (ca (kj (pv rfl) (pv rfl) (decide_eq_true (by omega))) ce)))
        (ca (kw (pv rfl) jR (decide_eq_true (by omega))) <| ca (e_rem (k := .i64) (m := i) (n := cs.length) (pv rfl) (pv rfl) (rv rfl) hN0) <| ca (e_add (by omega) (pv rfl) jR (rv rfl) (by omega)) <| ca (e_rem (k := .i64) (m := i + 1) (n := cs.length) (pv rfl) (pv rfl) (rv rfl) hN0) <| ca (e_add (by omega) (pv rfl) jR (rv rfl) (by omega)) <| ca (e_rem (k := .i64) (m := i + 2) (n := cs.length) (pv rfl) (pv rfl) (rv rfl) hN0) <|
        ca (e_ixO und_qs siz_qs rfl (pv rfl) (by rw [Lq]; exact m _) rfl) <| ca (e_ixO und_qs siz_qs rfl (pv rfl) (by rw [Lq]; exact m _) rfl) <| ca (e_ixO und_qs siz_qs rfl (pv rfl) (by rw [Lq]; exact m _) rfl) <| ca (e_ixO und_sps siz_sps rfl (pv rfl) (by rw [Ls]; exact hi) rfl) <|
        ca (e_ixO und_rs siz_rs rfl (pv rfl) (by rw [Lr]; exact m _) rfl) <| ca (e_ixO und_rs siz_rs rfl (pv rfl) (by rw [Lr]; exact m _) rfl) <| ca (e_ixO und_rs siz_rs rfl (pv rfl) (by rw [Lr]; exact m _) rfl) <| ca (e_ixO und_rsps siz_rsps rfl (pv rfl) (by rw [Lt]; exact hi) rfl) <|
        ca (e_ldO agg_q siz_q [] [] rfl (eq i) ⟨_, _, rfl, rfl, rfl, rfl⟩ rfl) <| ca (e_ldO agg_q siz_q [] [] rfl (eq (i + 1)) ⟨_, _, rfl, rfl, rfl, rfl⟩ rfl) <| ca (e_ldO agg_q siz_q [] [] rfl (eq (i + 2)) ⟨_, _, rfl, rfl, rfl, rfl⟩ rfl) <| ca (e_ldO agg_sp siz_sp [] [] rfl es ⟨_, _, rfl, rfl, rfl, _, _, rfl, rfl, rfl, rfl⟩ rfl) <|
        ca (e_ldO agg_r siz_r [] [] rfl (er i) ⟨_, _, rfl, rfl, rfl, rfl⟩ rfl) <| ca (e_ldO agg_r siz_r [] [] rfl (er (i + 1)) ⟨_, _, rfl, rfl, rfl, rfl⟩ rfl) <| ca (e_ldO agg_r siz_r [] [] rfl (er (i + 2)) ⟨_, _, rfl, rfl, rfl, rfl⟩ rfl) <| ca (e_ldO agg_rsp siz_rsp [] [] rfl et ⟨_, _, rfl, rfl, rfl, _, _, rfl, rfl, rfl, rfl⟩ rfl) <|
        ca (e_quad (k := 4) hG (pq rfl) (pq rfl) (pq rfl) (ps rfl rfl) (by decide) (by decide) (by decide) rfl rfl) <| ca (e_rquad (pr rfl) (pr rfl) (pr rfl) (prs rfl rfl) (by decide) zq.1 zq.2 rfl rfl) <| ca (e_sameSpan (ps rfl rfl) (prs rfl rfl) rfl rfl rfl) ce)
     · have hTk : ∀ t ∈ t3k, t.Valid (C3 z5 z6 z10 z11 cs bs bs.length w) := ca (e_known hG) ce
       refine cE (hC _) hTk (x := .ret) (n := 30) (post := [.val 4 (vp (.bool true))]) (by kernel_rfl) hA (fun a w4 hA => at_ret rfl hA (fun v hv => ⟨by rw [kp.1 hv], hA.below⟩))
   · exact hret (c := 0) (d := 0) (x := 2) (T := t3n2) (ca (e_form_no (pzO rfl) (pzO rfl) (.inr ⟨by omega, by omega, rfl⟩) (Nat.le_refl _) rfl) (ca (lq 0) (ca (lsp 0) (ca (kw (pv rfl) jR (decide_eq_false (by omega))) (ca (e_neq (pv rfl) (pv rfl) (decide_eq_true (by omega))) (ca (e_known hG) ce)))))) (by kernel_rfl) (by kernel_rfl)
 · exact hret (c := 0) (d := 0) (x := 5) (T := t3n5) (ca (e_form_no (pzO rfl) (pzO rfl) (.inl ⟨by omega, rfl⟩) (Nat.le_refl _) rfl) (ca (lq 0) (ca (kw (pv rfl) jR (decide_eq_true (by omega))) (ca (e_known hG) ce)))) (by kernel_rfl) (by kernel_rfl)
end
end Sym
open Go Go.RowKit Go.Proofs Lim
namespace Sym
theorem gr_Nt {B t n : Nat} {es : List (List Cl)} {L : List Gw} (hL : ∀ g ∈ L, g.t ≠ t) : (clN B t n es).Grows L := fun g hg w w' f hw h => (show OwnL B t n w (f 0) es from h).grew hw (.inl (hL g hg))
abbrev cl0f (B : Nat) (v0 v1 : Value) (m n : Nat) : List Cl := [clW v0, clW v1, jm (ii (m : Int)), jm (ii (n : Int)), clN B qT 4 [], clN B rT 3 []]
noncomputable abbrev C0f (v0 v1 : Value) (m n : Nat) (w : World) : Ctx := mkC [1, 1, 1, 1, 1, 1] [false, false, true, true, false, false] [] 211 (cl0f w.heap.size v0 v1 m n) w
theorem c0f_ok {v0 v1 : Value} {m n : Nat} {w : World} (h0 : v0.oneCell' = true) (h1 : v1.oneCell' = true) : (C0f v0 v1 m n w).Ok :=
 cL (cb (jf h0) <| cb (jf h1) <| cb (cu _) <| cb (cu _) <| cb clN_ok <| cb clN_ok cD) rfl rfl
abbrev lenS : cW := ⟨.blt .len [strsT] intT, [op 0], .val (op 2)⟩
abbrev lenE : cW := ⟨.blt .len [endsT] intT, [op 1], .val (op 3)⟩
abbrev gt12 (b : Bool) : cW := ⟨.bin .gtr intT, [op 2, vp (ii 12)], .val (vp (.bool b))⟩
abbrev le200 (b : Bool) : cW := ⟨.bin .leq intT, [op 2, vp (ii 200)], .val (vp (.bool b))⟩
abbrev gt210 (b : Bool) : cW := ⟨.bin .gtr intT, [op 2, vp (ii 210)], .val (vp (.bool b))⟩
abbrev gtE (b : Bool) : cW := ⟨.bin .gtr intT, [op 3, vp (ii 210)], .val (vp (.bool b))⟩
abbrev knE : cW := ⟨.call 10, [], .val (vp (.bool true))⟩
abbrev mkQe : cW := ⟨.bs 91 0, [], .val (op 4)⟩
abbrev mkRe : cW := ⟨.bs 92 0, [], .val (op 5)⟩
abbrev cl4f (B : Nat) (v1 z5 z6 : Value) (rs : List Rat) : List Cl := [clO B qT 4 z5 (rs.map (elQ 4)) dead, clO B rT 3 z6 (rs.map (elR 4)) dead, clW v1, clN B sT 8 [], clN B tT 6 []]
noncomputable abbrev C4f (v1 z5 z6 : Value) (rs : List Rat) (w : World) : Ctx := mkC [1, 1, 1, 1, 1] [false, false, false, false, false] [] 211 (cl4f w.heap.size v1 z5 z6 rs) w
theorem c4f_ok {v1 z5 z6 : Value} {rs : List Rat} {w : World} (h1 : v1.oneCell' = true) (h5 : z5.oneCell' = true) (h6 : z6.oneCell' = true) : (C4f v1 z5 z6 rs w).Ok := by
 have hL : ∀ g ∈ (cl4f w.heap.size v1 z5 z6 rs).flatMap (·.L), (g.t = qT ∧ g.m = (rs.map (elQ 4)).length * 4) ∨ (g.t = rT ∧ g.m = (rs.map (elR 4)).length * 3) :=
  mem_O (fun g hg => .inl ⟨(clO_L hg).1, (clO_L hg).2.1⟩) (mem_O (fun g hg => .inr ⟨(clO_L hg).1, (clO_L hg).2.1⟩) (mem_R rfl))
 refine cL (cb (clO_ok (noN rfl) h5) <| cb (clO_ok (noN rfl) h6) <| cb (jf h1) <| cb clN_ok <| cb clN_ok cD) rfl rfl (.inr ?_)
 exact cj (gr_O (fun g hg => (hL g hg).elim (fun h => .inr h.2) (fun h => .inl (by rw [h.1]; decide)))) <| cj (gr_O (fun g hg => (hL g hg).elim (fun h => .inl (by rw [h.1]; decide)) (fun h => .inr h.2))) <| cj gr_W <| cj (gr_Nt (fun g hg => (hL g hg).elim (fun h => by rw [h.1]; decide) (fun h => by rw [h.1]; decide))) <| cj (gr_Nt (fun g hg => (hL g hg).elim (fun h => by rw [h.1]; decide) (fun h => by rw [h.1]; decide))) grs_nil
def t4f : List cW := [⟨.bs 93 0, [], .val (op 3)⟩, ⟨.bs 94 0, [], .val (op 4)⟩]
set_option maxRecDepth 100000 in
theorem forms_walk (v0 v1 : Value) (ls : List (List UInt8)) (bx : List (List UInt8 × List UInt8)) (w : World) (hG : Gr w) (h0 : Ls 1 w v0 (ls.map elTx)) (h1 : Ls 2 w v1 (bx.map elE)) : Calls Tryz.prog 8 #[v0, v1] w (Go.Proofs.YtccabfblgjcboaaGreatDoor.Val w (.bool true)) := by
 have L0 : (ls.map elTx).length = ls.length := by simp
 have L1 : (bx.map elE).length = bx.length := by simp
 have hC := c0f_ok (m := ls.length) (n := bx.length) (w := w) h0.one h1.one
 have n0 := h0.len
 have n1 := h1.len
 rw [L0] at n0
 rw [L1] at n1
 have k1 : lenS.Valid (C0f v0 v1 ls.length bx.length w) := e_lenZ und_strs (pzW rfl h0) (by rw [L0]; exact rv rfl)
 have k2 : lenE.Valid (C0f v0 v1 ls.length bx.length w) := e_lenZ und_ends (pzW rfl h1) (by rw [L1]; exact rv rfl)
 have k3 : ∀ b, decide ((ls.length : Int) > 12) = b → (gt12 b).Valid (C0f v0 v1 ls.length bx.length w) := fun b hb => kw (pv rfl) jR hb
 have k4 : ∀ b, decide ((ls.length : Int) ≤ 200) = b → (le200 b).Valid (C0f v0 v1 ls.length bx.length w) := fun b hb => e_leq (pv rfl) jR hb
 have k5 : ∀ b, decide ((ls.length : Int) > 210) = b → (gt210 b).Valid (C0f v0 v1 ls.length bx.length w) := fun b hb => kw (pv rfl) jR hb
 have k6 : ∀ b, decide ((bx.length : Int) > 210) = b → (gtE b).Valid (C0f v0 v1 ls.length bx.length w) := fun b hb => kw (pv rfl) jR hb
 have k7 : knE.Valid (C0f v0 v1 ls.length bx.length w) := e_known hG
 have k8 : mkQe.Valid (C0f v0 v1 ls.length bx.length w) := e_mk0 und_q' inf_q rfl
 have k9 : mkRe.Valid (C0f v0 v1 ls.length bx.length w) := e_mk0 und_r' inf_r rfl
 have hargs : jE (C0f v0 v1 ls.length bx.length w) w [op 0, op 1] [v0, v1] := ⟨_, _, rfl, (cS rfl).2 rfl, _, _, rfl, (cS rfl).2 rfl, rfl⟩
 have go : ∀ {T : List cW}, (∀ t ∈ T, t.Valid (C0f v0 v1 ls.length bx.length w)) → runB (C0f v0 v1 ls.length bx.length w).toStat T 60 (bodyOf Tryz.f8) Tryz.f8.results.toList [op 0, op 1] (.val (vp (.bool true))) = true → Calls Tryz.prog 8 #[v0, v1] w (Go.Proofs.YtccabfblgjcboaaGreatDoor.Val w (.bool true)) := by
  intro T hT hr
  refine (cM hC hT 8 Tryz.f8 [op 0, op 1] (.val (vp (.bool true))) 60 Tryz.func8 rfl rfl rfl hr [v0, v1] hargs).mono ?_
  rintro e w' ⟨v, rfl, hv, hb⟩
  rw [val_of hv]
  exact ⟨rfl, hb⟩
 by_cases c1 : 12 < ls.length ∧ ls.length ≤ 200
 · exact go (ca k1 <| ca (k3 true (decide_eq_true (by omega))) <| ca (k4 true (decide_eq_true (by omega))) <| ca k7 ce) (by kernel_rfl)
 by_cases c2 : 210 < ls.length
 · exact go (ca k1 <| ca (k3 true (decide_eq_true (by omega))) <| ca (k4 false (decide_eq_false (by omega))) <| ca (k5 true (decide_eq_true (by omega))) <| ca k7 ce) (by kernel_rfl)
 by_cases c3 : 210 < bx.length
 · by_cases c4 : 12 < ls.length
   · exact go (ca k1 <| ca (k3 true (decide_eq_true (by omega))) <| ca (k4 false (decide_eq_false (by omega))) <| ca (k5 false (decide_eq_false (by omega))) <| ca k2 <| ca (k6 true (decide_eq_true (by omega))) <| ca k7 ce) (by kernel_rfl)
   · exact go (ca k1 <| ca (k3 false (decide_eq_false (by omega))) <| ca (k5 false (decide_eq_false (by omega))) <| ca k2 <| ca (k6 true (decide_eq_true (by omega))) <| ca k7 ce) (by kernel_rfl)
 refine calls_at (C := C0f v0 v1 ls.length bx.length w) (f := 8) (args := [op 0, op 1]) Tryz.func8 (c := b_lf) rfl rfl (Nat.le_of_ble_eq_true rfl) (vs := [v0, v1]) hargs (fun a hA => ?_)
 have front : ∀ {T : List cW}, (∀ t ∈ T, t.Valid (C0f v0 v1 ls.length bx.length w)) → frontB (C0f v0 v1 ls.length bx.length w).toStat T 60 3 b_lf (argItems 0 [op 0, op 1]) [.val 0 (op 0), .val 1 (op 1), .val 5 (op 4), .val 6 (op 5)] = true → b_lf.wp Tryz.prog (bodyPost Tryz.prog Tryz.f8 (LF w)) a w := by
  intro T hT hr
  refine front_is hC hT 60 3 _ hr hA (fun a w1 hA => ?_)
  show (Code.seq (Code.seq (cI x1_lf) (.block 0 (.loop l1_lf))) (jG 4 b_lf)).wp Tryz.prog _ _ _
  refine wp_seq (wp_seq (cE hC (T := []) ce (x := .normal) (n := 30) (post := [.val 0 (op 0), .val 1 (op 1), .val 5 (op 4), .val 6 (op 5), .val 7 (vp (ii 0))]) (by kernel_rfl) hA (fun a w1 hA => ?_)))
  obtain ⟨⟨u0, g0, e0⟩, ⟨u1, g1, e1⟩, ⟨u5, g5, e5⟩, ⟨u6, g6, e6⟩, ⟨u7, g7, e7⟩, _⟩ := hA.items
  rw [(cS rfl).1 e0] at g0
  rw [(cS rfl).1 e1] at g1
  rw [kp.1 e7] at g7
  refine loop1 hG h0 h1.one (by omega) ⟨hA.below, hA.defers, hA.size, g0, g1, g5, g6, g7, (op_isN rfl).1 e5, (op_isN rfl).1 e6⟩ (fun z5 z6 a w1 hl hS => ?_)
  clear hA g0 g1 g5 g6 g7 e0 e1 e5 e6 e7
  have hC4 := c4f_ok (rs := ls.map nOf) (w := w) h1.one hS.o5.one hS.o6.one
  have hT4 : ∀ t ∈ t4f, t.Valid (C4f v1 z5 z6 (ls.map nOf) w) := ca (e_mk0 und_s' inf_s rfl) (ca (e_mk0 und_t' inf_t rfl) ce)
  have hA : At (C4f v1 z5 z6 (ls.map nOf) w) [.val 1 (op 2), .val 5 (op 0), .val 6 (op 1)] a w1 := ⟨hS.below, hS.defers, hS.size, ⟨⟨_, hS.t1, (cS rfl).2 rfl⟩, ⟨_, hS.t5, (jn rfl).2 ⟨rfl, hS.o5⟩⟩, ⟨_, hS.t6, (jn rfl).2 ⟨rfl, hS.o6⟩⟩, trivial⟩, lim_at (lim_O hS.o5 (lim_O hS.o6 (lim_rest rfl)))⟩
  refine front_is hC4 hT4 60 1 [.val 1 (op 2), .val 5 (op 0), .val 6 (op 1), .val 10 (op 3), .val 11 (op 4)] (by kernel_rfl) hA (fun a w1 hA => ?_)
  show (Code.seq (Code.seq (cI x2_lf) (.block 2 (.loop l2_lf))) (jG 6 b_lf)).wp Tryz.prog _ _ _
  refine wp_seq (wp_seq (cE hC4 (T := []) ce (x := .normal) (n := 30) (post := [.val 1 (op 2), .val 5 (op 0), .val 6 (op 1), .val 10 (op 3), .val 11 (op 4), .val 12 (vp (ii 0))]) (by kernel_rfl) hA (fun a w1 hA => ?_)))
  obtain ⟨⟨u1, g1, e1⟩, ⟨u5, g5, e5⟩, ⟨u6, g6, e6⟩, ⟨u10, g10, e10⟩, ⟨u11, g11, e11⟩, ⟨u12, g12, e12⟩, _⟩ := hA.items
  rw [(cS rfl).1 e1] at g1
  rw [kp.1 e12] at g12
  rw [((jn rfl).1 e5).1] at g5
  rw [((jn rfl).1 e6).1] at g6
  refine loop2 hG h1 (by omega) ⟨hA.below, hA.defers, hA.size, g1, g5, g6, g10, g11, g12, ((jn rfl).1 e5).2, ((jn rfl).1 e6).2, (op_isN rfl).1 e10, (op_isN rfl).1 e11⟩ (fun z5 z6 z10 z11 a w1 hp hS2 => ?_)
  have hsz : ∀ l : List UInt8, l.length ≤ 60 → cB (nOf l) 4 := fun l h => cB.read l (L := 60) h (by decide) (by decide)
  refine tail3 hG (by rw [List.length_map]; omega) (by rw [List.length_map]; omega) (by rw [List.length_map]; omega) (fun r hr => ?_) (fun p hq => ?_) hS2
  · obtain ⟨l, h, rfl⟩ := List.mem_map.1 hr
    exact hsz l (hl l h)
  · obtain ⟨b, h, rfl⟩ := List.mem_map.1 hq
    exact ⟨hsz _ (hp b h).1, hsz _ (hp b h).2⟩
 by_cases c4 : 12 < ls.length
 · exact front (ca k1 <| ca (k3 true (decide_eq_true (by omega))) <| ca (k4 false (decide_eq_false (by omega))) <| ca (k5 false (decide_eq_false (by omega))) <| ca k2 <| ca (k6 false (decide_eq_false (by omega))) <| ca k8 <| ca k9 ce) (by kernel_rfl)
 · exact front (ca k1 <| ca (k3 false (decide_eq_false (by omega))) <| ca (k5 false (decide_eq_false (by omega))) <| ca k2 <| ca (k6 false (decide_eq_false (by omega))) <| ca k8 <| ca k9 ce) (by kernel_rfl)
end Sym
open Go Go.RowKit Go.Proofs Lim
open Go.ChangeShapes Go.WideShapes Go.ChangeAt Go.ChangeMaps
namespace lawExactForms
set_option maxRecDepth 100000 in
theorem contract (H : Type) (enc : TypeId × Value → H) (W : World) (base : Nat) (args : Array Value) (ds gs : List (DataW H)) (before : List MemPlace)
 (hval : ∀ (j : Nat) t v, Tryz.f8.params[j]? = some t → args[j]? = some v → Value.okWide Tryz.prog W .any base t v)
 (hW : DataW.Whole enc Tryz.prog Tryz.f8.params.toList Rows.exactFormsSpec.vars false W args.toList ds gs before) (hG : Gr W) :
 Calls Tryz.prog 8 args W fun e W' => ∃ v, e = .returned v ∧ Rows.exactFormsSpec.post enc Tryz.prog Tryz.f8 false true false false W args v W' := by
 have hW' := hW
 obtain ⟨p, q, hA0, hV, rfl, hfz, hnd⟩ := hW
 have hA : DataW.TrodAll enc Tryz.prog W 0 (fun _ => true) true Tryz.f8.params.toList args.toList ds p := hA0
 rw [Tryz.params8] at hA hval
 obtain ⟨v0, vs0, d0, ds0, p0, q0, hargs0, rfl, rfl, h0, r0⟩ := trodAll_cons hA
 obtain ⟨v1, vs1, d1, ds1, p1, q1, hargs1, rfl, rfl, h1, r1⟩ := trodAll_cons r0
 obtain ⟨rfl, rfl, rfl⟩ := trodAll_nil r1
 obtain rfl : args = #[v0, v1] := by cases args; simp_all
 obtain ⟨rfl, rfl⟩ := trodVars_none hV
 have hlt0 : ∀ x ∈ p0, x.block < W.heap.size := fun x hx => by simpa using hW'.lt x (by simp [hx])
 have hlt1 : ∀ x ∈ p1, x.block < W.heap.size := fun x hx => by simpa using hW'.lt x (by simp [hx])
 obtain ⟨ls, hls⟩ := Sym.open_texts (hval 0 89 v0 rfl rfl) h0
 obtain ⟨bx, hbx⟩ := Sym.open_boxes (hval 1 90 v1 rfl rfl) h1
 clear hA0
 have walk := Sym.forms_walk v0 v1 ls bx W hG hls hbx
 refine walk.mono fun e W' ⟨he, hb⟩ => ?_
 subst he
 refine ⟨_, rfl, _, _, _, [], p0 ++ (p1 ++ []), [], hW', ?_, ?_, ?_, hb.frame _, fun h => by cases h⟩
 · exact trodAll_cons_mk (shut_bool Tryz.underlying4 _) trodAll_mk0
 · exact trodAll_cons_mk (Below.trod laidOut (by kernel_rfl) (of_decide_eq_true (by kernel_rfl)) h0 hb hlt0) (trodAll_cons_mk (Below.trod laidOut (by kernel_rfl) (of_decide_eq_true (by kernel_rfl)) h1 hb hlt1) trodAll_mk0)
 · trivial
theorem reads (os : Os) {H : Type} (enc : TypeId × Value → H) : ∃ places, DataW.whole enc Tryz.prog ((World.doorLaid Tryz.prog 400 os).forCall (fun _ _ => 0) ⟨#[], #[.slice none 0 0, .slice none 0 0], []⟩).memory Tryz.f8.params.toList Rows.exactFormsSpec.vars false #[Value.slice none 0 0, Value.slice none 0 0].toList 8 = some ([.nil, .nil], [], places) :=
 ⟨[], by kernel_rfl⟩
set_option maxRecDepth 100000 in
theorem lifted (os : Os) (started : os.Started) (H : Type) (enc : TypeId × Value → H) (F : Stop.Interp) :
 ReturnsInHanded {} Tryz.checked os 8 .any ((OpenSpec.ofChange Rows.exactFormsSpec).preRow enc Tryz.prog Tryz.f8 Rows.exactFormsRow.domain false Rows.exactFormsRow.laid) (((OpenSpec.ofChange Rows.exactFormsSpec).at F).post enc Tryz.prog Tryz.f8 false true false false) := by
 obtain ⟨places, hx⟩ := reads os enc
 refine returnsInHanded_of_row (C := Tryz.checked) (s := OpenSpec.ofChange Rows.exactFormsSpec) own started (by kernel_rfl) Tryz.func8
  (witness_row_atRef (enc := enc) (C := Tryz.checked) false (World.doorLaid Tryz.prog 400 os) #[Value.slice none 0 0, Value.slice none 0 0] rfl (by kernel_rfl) (by kernel_rfl) (by kernel_rfl)
   (OpenSpec.preRow_of_cond 8 hx (by kernel_rfl) (fun k hk => by cases hk) (by kernel_rfl) (door_met os _))) ?_
 intro W base args ds gs before hval hW _ _ _ hL hS _
 exact contract H enc W base args ds gs before hval hW (gr_of_laid hL hS)
theorem said : Rows.ExactFormsSaid :=
 OpenClaim.holds_of_cond 8 Tryz.f8 rfl rfl rfl rfl rfl rfl rfl ⟨rfl, rfl, rfl, rfl, rfl⟩ rfl rfl rfl rfl rfl (by kernel_rfl) Tryz.func8 (by kernel_rfl)
  (of_decide_eq_true (by kernel_rfl)) (by unfold Func.isWrapper; first | (rw [if_pos (by decide +kernel)]; kernel_rfl) | (rw [if_neg (by decide +kernel)]; exact ⟨rfl, rfl⟩))
  (fun os started H enc _ F => by rw [OpenClaim.pre_eq_preRow]; exact lifted os started H enc F)
theorem plain (f : FuncId) (fn : Func) (hf : Tryz.pinned.checked.prog.funcNamed "voussoir/voussoirlaw01.ExactForms" = some f) (hfn : Tryz.pinned.checked.prog.funcs[f]? = some fn) :
 true = Tryz.pinned.checked.prog.looks [] ∧ ∀ (j : Nat) t, fn.params[j]? = some t → Tryz.pinned.checked.prog.wantsStandIn t = false := by
 obtain rfl : f = 8 := Option.some.inj ((show Tryz.prog.funcNamed "voussoir/voussoirlaw01.ExactForms" = some 8 by kernel_rfl).symm.trans hf) |>.symm
 obtain rfl : fn = Tryz.f8 := (Option.some.inj (Tryz.func8.symm.trans hfn)).symm
 refine ⟨by kernel_rfl, fun j t ht => ?_⟩
 rw [Tryz.params8] at ht
 have hm : t ∈ [89, 90] := by simpa using Array.mem_of_getElem? ht
 have hall : ([89, 90].all fun u => !Tryz.prog.wantsStandIn u) = true := by kernel_rfl
 exact (show Tryz.prog.wantsStandIn t = false by simpa using List.all_eq_true.1 hall t hm)
theorem card : Rows.ExactFormsCardSaid :=
 Claim7.holds_tied_plain_at .later [] _ _ _ _ said (fun _ h => by cases h) (by kernel_rfl) (fun _ h => by cases h) exactForms_row_tie rfl ⟨rfl, rfl⟩ (by kernel_rfl) rfl plain (by kernel_rfl)
end lawExactForms
end Go.Proofs.YtccabfblgjcboaaGreatDoor
