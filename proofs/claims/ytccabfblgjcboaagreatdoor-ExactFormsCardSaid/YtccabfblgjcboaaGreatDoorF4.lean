/- Package exact: SegC RefA RefB RefV. -/
import Derived.Test.YtccabfblgjcboaaGreatDoorF3
import Derived.Laws.AppendOwn
set_option linter.all false

namespace Go.Proofs.YtccabfblgjcboaaGreatDoor
open Go Go.RowKit Go.Proofs Lim
namespace Sym
def argItems : Nat → List jQ → List Item
 | _, [] => []
 | j, p :: ps => .val j p :: argItems (j + 1) ps
section
variable {C : Ctx} {T : List cW} {a : Act} {w : World}
theorem argItems_are : ∀ {ps : List jQ} {vs : List Value} {j : Nat} {bs : List Nat}, jE C w ps vs → (∀ i v, vs[i]? = some v → a.tmps[j + i]? = some v) → jd C a w (argItems j ps) bs
 | [], _, _, _, _, _ => trivial
 | p :: ps, _, j, bs, ⟨v, ws, h1, h2, h3⟩, hs => by
  subst h1
  exact ⟨⟨v, by simpa using hs 0 v rfl, h2⟩, argItems_are h3 (fun i x hx => by
   have := hs (i + 1) x (by simpa using hx)
   rw [show j + 1 + i = j + (i + 1) by omega]
   exact this)⟩
theorem calls_at {f : FuncId} {fn : Func} {c : Code} (hf : C.P.funcs[f]? = some fn) (hb : fn.body = some c) (hnt : fn.ntmps = C.nt) {args : List jQ} (hlen : args.length ≤ C.nt) {vs : List Value} (hvs : jE C C.w0 args vs) {Q : Ending → World → Prop}
 (h : ∀ a, At C (argItems 0 args) a C.w0 → c.wp C.P (bodyPost C.P fn Q) a C.w0) (hL : C.L = [] := by rfl) : Calls C.P f vs.toArray C.w0 Q := by
 refine calls_of_wp hf hb (h _ ⟨Below.refl _ _, rfl, ?_, ?_, fun k hk => by rw [hL] at hk; simp at hk⟩)
 · have := hvs.length
   simp only [Array.size_append, List.size_toArray, Array.size_replicate]
   omega
 · refine argItems_are hvs (fun i v hi => ?_)
   have hil : i < vs.length := by
    rcases Nat.lt_or_ge i vs.length with h | h
    · exact h
    · simp [List.getElem?_eq_none h] at hi
   show (vs.toArray ++ Array.replicate (fn.ntmps - vs.toArray.size) undef)[0 + i]? = some v
   rw [Nat.zero_add, Array.getElem?_append_left (by simpa using hil)]
   simpa using hi
theorem at_ret {fn : Func} {t : Nat} {p : jQ} {l : List Item} (hr : fn.results = #[.tmp t]) (hA : At C (.val t p :: l) a w) {Q : Ending → World → Prop} (h : ∀ v, p.is C w v → Q (.returned v) w) : bodyPost C.P fn Q .ret a w := by
 obtain ⟨⟨v, h1, h2⟩, _⟩ := hA.items
 refine ⟨hA.defers, v, ?_, h v h2⟩
 rw [results_eq, hr]
 have : a.tmps.getD t undef = v := by rw [Array.getD_eq_getD_getElem?, h1]; rfl
 simp [resF, this]
theorem jz {P : Program} {id : Nat} {c : Code} {Q : Exit → Act → World → Prop} {Θ : Type} (I : Θ → Act → World → Prop) (μ : Θ → Nat)
 (round : ∀ θ a w, I θ a w → c.wp P (Exit.then (fun a' w' => ∃ θ', I θ' a' w' ∧ μ θ' < μ θ) (Exit.inBlock id Q)) a w) (θ : Θ) (h0 : I θ a w) : (Code.block id (.loop c)).wp P Q a w :=
 wp_block (loop_is I μ round θ h0)
def rOf : List (Nat × Nat) → Nat → Nat
 | [], _ => 1000000
 | (c, d) :: l, x => if x = c then d else rOf l x
theorem rOf_some {cl cl' : List Cl} (hz : cl[1000000]? = none) : ∀ {l : List (Nat × Nat)} {c : Nat} {x : Cl}, (∀ p ∈ l, cl[p.2]? = cl'[p.1]?) → cl[rOf l c]? = some x → cl'[c]? = some x
 | [], c, x, _, hx => by
  simp only [rOf, hz] at hx
  cases hx
 | (c0, d) :: l, c, x, h, hx => by
  unfold rOf at hx
  split at hx
  · rename_i hc
    subst hc
    have := h (c, d) (by simp)
    rw [← this]
    exact hx
  · exact rOf_some hz (fun p hp => h p (List.mem_cons_of_mem _ hp)) hx
theorem at_re {csz csz' : List Nat} {numc numc' : List Bool} {okT okT' : List Nat} {nt : Nat} {cl cl' : List Cl} {w0 : World} {is is' : List Item}
 (hA : At (mkC csz numc okT nt cl w0) is' a w) (l : List (Nat × Nat)) (h : ∀ p ∈ l, cl[p.2]? = cl'[p.1]?) (hz : cl[1000000]? = none) (hl : is' = is.map (Item.re (rOf l))) (hL : cl'.flatMap (·.L) = [] := by rfl) : At (mkC csz' numc' okT' nt cl' w0) is a w := by
 refine At.re (C := mkC csz numc okT nt cl w0) (C' := mkC csz' numc' okT' nt cl' w0) (r := rOf l) (fun c f hE => ?_) rfl (fun k hk => noL hL hk) rfl hl hA
 simp only [mkC] at hE ⊢
 split at hE
 · rename_i x hx
   rw [rOf_some hz h hx]
   exact hE
 · exact hE.elim
theorem prs_nil {P : Nat × Nat → Prop} : ∀ t ∈ ([] : List (Nat × Nat)), P t := fun t h => by simp at h
theorem cH {P : Nat × Nat → Prop} {a : Nat × Nat} {l : List (Nat × Nat)} (h : P a) (k : ∀ t ∈ l, P t) : ∀ t ∈ a :: l, P t := fun t ht => by
 rcases List.mem_cons.1 ht with rfl | ht
 · exact h
 · exact k t ht
end
section
variable {C : Ctx} {T : List cW} {a : Act} {w : World} {Q : Exit → Act → World → Prop} {ops : Array Oper}
def opsE (S : Stat) (T : List cW) : List Oper → St → Option St
 | [], st => some st
 | o :: l, st => match o.guard with
  | none => match stepOp S T (fun k => jM k st.m) st.nb o with
   | some ws => opsE S T l ⟨st.nb + 1, ws ++ st.m⟩
   | none => none
  | some _ => none
theorem step_sat (hC : C.Ok) (hT : ∀ t ∈ T, t.Valid C) {st : St} {ws : Ws} {o : Oper} (h : stepOp C.toStat T (fun k => jM k st.m) st.nb o = some ws) (hs : Sat C st a w) {K : Act → World → Prop} (hK : ∀ a' w', Sat C ⟨st.nb + 1, ws ++ st.m⟩ a' w' → K a' w') : o.wp C.P a w K Q := by
 obtain ⟨e, hk, hg, h1, h2⟩ := hs
 refine stepOp_is hC hT hk hg ?_ ?_ h ?_
 · cases he : e.ρ st.nb with
   | none => rfl
   | some k => have := h1 _ _ he; omega
 · intro x hx
   cases he : e.ν x with
   | none => rfl
   | some f => have := h2 _ _ he; omega
 · intro e' a' w' hx hρ hν hg' hnew hfr
   refine hK a' w' ⟨e', ?_, hg', ?_, ?_⟩
   · intro k v hkv
     have hkv : jM k (ws ++ st.m) = some v := hkv
     rw [find_append] at hkv
     cases hf : jM k ws with
     | some x =>
      rw [hf] at hkv
      injection hkv with hkv; subst hkv
      exact hnew k _ (find_mem hf)
     | none =>
      rw [hf] at hkv
      exact hfr k v (hk k v hkv) hf
   · intro b k hb
     show b < st.nb + 1
     rcases hρ b k hb with h | h
     · have := h1 b k h; omega
     · omega
   · intro s f hs'
     show s / 8 < st.nb + 1
     rcases hν s f hs' with h | h
     · have := h2 s f h; omega
     · omega
theorem opsE_is (hC : C.Ok) (hT : ∀ t ∈ T, t.Valid C) : ∀ {l rest : List Oper} {st st' : St} {a : Act} {w : World}, opsE C.toStat T l st = some st' → Sat C st a w → (∀ a' w', Sat C st' a' w' → wpList C.P ops Q rest a' w') → wpList C.P ops Q (l ++ rest) a w
 | [], rest, st, st', a, w, h, hs, hQ => by
  simp [opsE] at h; subst h
  exact hQ a w hs
 | o :: l, rest, st, st', a, w, h, hs, hQ => by
  unfold opsE at h
  split at h
  · rename_i hg
    split at h
    · rename_i ws hw
      refine wpList_plain hg (fun K hK => step_sat hC hT hw hs (fun a' w' hs' => hK a' w' (opsE_is hC hT h hs' hQ)))
    · cases h
  · cases h
def opsB (S : Stat) (T : List cW) (l : List Oper) (pre post : List Item) : Bool :=
 match entry pre 0 with
 | some ws => match opsE S T l ⟨pre.length, ws⟩ with
  | some st' => meets (fun k => jM k st'.m) post []
  | none => false
 | none => false
theorem ops_is (hC : C.Ok) (hT : ∀ t ∈ T, t.Valid C) {l rest : List Oper} {pre post : List Item} (h : opsB C.toStat T l pre post = true) (hA : At C pre a w) (hQ : ∀ a' w', At C post a' w' → wpList C.P ops Q rest a' w') : wpList C.P ops Q (l ++ rest) a w := by
 unfold opsB at h
 split at h
 · rename_i ws hws
   split at h
   · rename_i st' he
     exact opsE_is hC hT he (hA.sat hws) (fun a' w' hs => hQ a' w' (hs.meet h))
   · cases h
 · cases h
theorem ops_end (hC : C.Ok) (hT : ∀ t ∈ T, t.Valid C) {l : List Oper} {pre post : List Item} (h : opsB C.toStat T l pre post = true) (hA : At C pre a w) (hQ : ∀ a' w', At C post a' w' → Q .normal a' w') : wpList C.P ops Q l a w := by
 have := ops_is (rest := []) hC hT (ops := ops) (Q := Q) h hA hQ
 rwa [List.append_nil] at this
def opsOf : Code → List Oper
 | .region _ ops _ => ops.toList
 | _ => []
end
def clW (v : Value) : Cl := ⟨[], 1, false, fun _ f => f 0 = v⟩
theorem jf {okT : List Nat} {B : Nat} {v : Value} (hv : v.oneCell' = true) : (clW v).Ok okT B := by
 refine ⟨fun w w' f hb h => h, fun w w' R f cs t _ _ ho hm hz _ hb h => h, fun _ _ h _ => absurd h (by simp [clW]), ?_⟩
 intro w f j h hj
 have hj : j < 1 := hj
 obtain rfl : j = 0 := by omega
 rw [show f 0 = v from h]
 exact hv
section
variable {csz : List Nat} {numc : List Bool} {okT : List Nat} {nt : Nat} {cl : List Cl} {w0 : World} {w : World} {v : Value} {c : Nat} {a : Act}
theorem cS {x : Value} (h : cl[c]? = some (clW x)) : (op c).is (mkC csz numc okT nt cl w0) w v ↔ v = x := by
 constructor
 · rintro ⟨f, hE, hv⟩
   simp only [mkC, h] at hE
   have : v = f 0 := by simpa [List.range_succ] using hv
   rw [this]; exact hE
 · rintro rfl
   refine ⟨fun _ => v, ?_, rfl⟩
   simp only [mkC, h]
   rfl
theorem jj {x : Value} (h : cl[c]? = some (clW x)) : PV csz numc okT nt cl w0 (op c) x := fun _ _ h1 => (cS h).1 h1
theorem kn {x : Value} (h : cl[c]? = some (clW x)) : RV csz numc okT nt cl w0 (.val (op c)) x := fun _ => (cS h).2 rfl
theorem pdW {x : Value} {ds : List Nat} (h : cl[c]? = some (clW x)) (hx : Dg w0 x ds) : PD csz numc okT nt cl w0 (op c) ds := fun w v hb h1 => by
 rw [(cS h).1 h1]
 exact hx.below hb (Nat.le_refl _)
theorem at_of (vals : List (Nat × Nat × Value)) (hd : a.defers = []) (hs : a.tmps.size = nt) (h : ∀ p ∈ vals, a.tmps[p.1]? = some p.2.2 ∧ cl[p.2.1]? = some (clW p.2.2)) (hL : cl.flatMap (·.L) = [] := by rfl) : At (mkC csz numc okT nt cl w) (vals.map (fun p => Item.val p.1 (op p.2.1))) a w := by
 refine ⟨Below.refl _ _, hd, hs, ?_, fun k hk => noL hL hk⟩
 have key : ∀ (vals : List (Nat × Nat × Value)) bs, (∀ p ∈ vals, a.tmps[p.1]? = some p.2.2 ∧ cl[p.2.1]? = some (clW p.2.2)) → jd (mkC csz numc okT nt cl w) a w (vals.map (fun p => Item.val p.1 (op p.2.1))) bs := by
  intro vals
  induction vals with
  | nil => intro _ _; trivial
  | cons p l ih => exact fun bs h => ⟨⟨p.2.2, (h p (by simp)).1, (cS (h p (by simp)).2).2 rfl⟩, ih bs (fun q hq => h q (List.mem_cons_of_mem _ hq))⟩
 exact key vals [] h
theorem item_v {t : Nat} {x : Value} {l : List Item} {bs : List Nat} (hc : cl[c]? = some (clW x)) (h : jd (mkC csz numc okT nt cl w0) a w (.val t (op c) :: l) bs) : a.tmps[t]? = some x ∧ jd (mkC csz numc okT nt cl w0) a w l bs := by
 obtain ⟨⟨v, h1, h2⟩, h3⟩ := h
 rw [(cS hc).1 h2] at h1
 exact ⟨h1, h3⟩
theorem vals_nil {P : Nat × Nat × Value → Prop} : ∀ t ∈ ([] : List (Nat × Nat × Value)), P t := fun t h => by simp at h
theorem vals_cons {P : Nat × Nat × Value → Prop} {a : Nat × Nat × Value} {l : List (Nat × Nat × Value)} (h : P a) (k : ∀ t ∈ l, P t) : ∀ t ∈ a :: l, P t := fun t ht => by
 rcases List.mem_cons.1 ht with rfl | ht
 · exact h
 · exact k t ht
end
end Sym
open Go Go.RowKit Go.Proofs Lim
namespace Sym
theorem cU : Tryz.prog.underlying 31 = some (.slice (Tryz.prog.elem 31)) := by kernel_rfl
theorem elem_nat : Tryz.prog.elem 31 = 3 := by kernel_rfl
theorem cu {okT : List Nat} {B : Nat} (n : Int) : (jm (ii n)).Ok okT B := clV_ok rfl
theorem noT {x : Nat} : ∀ t ∈ ([] : List Nat), t ≠ x := fun t h => by simp at h
abbrev cl_digit (ds : List Nat) (i : Nat) : List Cl := [ko ds, jm (ii (i : Int)), clP (ds.getD i 0), jm (ii ((ds.getD i 0 : Nat) : Int)), jm (ii (ds.length : Int))]
def t_digit1 : List cW := [⟨.blt .len [31] 3, [op 0], .val (op 4)⟩, ⟨.bin .lss 3, [op 1, op 4], .val (vp (.bool true))⟩, ⟨.ix 31, [op 0, op 1], .val (op 2)⟩, ⟨.ld 3, [op 2], .val (op 3)⟩]
def t_digit2 : List cW := [⟨.blt .len [31] 3, [op 0], .val (op 4)⟩, ⟨.bin .lss 3, [op 1, op 4], .val (vp (.bool false))⟩]
theorem digit_ok (v : Value) (ds : List Nat) (i : Nat) (w : World) (h : Dg w v ds) : Calls Tryz.prog 127 #[v, ii (i : Int)] w (fun e w' => e = .returned (ii ((ds.getD i 0 : Nat) : Int)) ∧ Below w.heap.size w w') := by
 have hC : (mkC [1, 1, 1, 1, 1] [false, true, true, true, true] [] 13 (cl_digit ds i) w).Ok :=
  cL (cb (cF noT ds) (cb (cu _) (cb (clP_ok noT _) (cb (cu _) (cb (cu _) cD))))) rfl rfl
 have hv : jE (mkC [1, 1, 1, 1, 1] [false, true, true, true, true] [] 13 (cl_digit ds i) w) w [op 0, op 1] [v, ii (i : Int)] := ⟨_, _, rfl, (op_isD rfl).2 h, _, _, rfl, (jA rfl).2 rfl, rfl⟩
 by_cases hi : i < ds.length
 · have hT : ∀ t ∈ t_digit1, t.Valid (mkC [1, 1, 1, 1, 1] [false, true, true, true, true] [] 13 (cl_digit ds i) w) :=
    ca (e_len cU (pd rfl) (rv rfl)) (ca (kj (pv rfl) (pv rfl) (decide_eq_true (by omega))) (ca (e_ix cU elem_nat (pd rfl) (pv rfl) hi rfl) (ca (e_ld rfl (rv rfl)) ce)))
   refine (cM hC hT 127 Tryz.f127 [op 0, op 1] (.val (op 3)) 30 Tryz.func127 rfl rfl rfl (by kernel_rfl) _ hv).mono ?_
   rintro e w' ⟨x, rfl, hx, hb⟩
   exact ⟨by rw [(jA rfl).1 hx], hb⟩
 · have hT : ∀ t ∈ t_digit2, t.Valid (mkC [1, 1, 1, 1, 1] [false, true, true, true, true] [] 13 (cl_digit ds i) w) :=
    ca (e_len cU (pd rfl) (rv rfl)) (ca (kj (pv rfl) (pv rfl) (decide_eq_false (by omega))) ce)
   refine (cM hC hT 127 Tryz.f127 [op 0, op 1] (.val (vp (ii 0))) 30 Tryz.func127 rfl rfl rfl (by kernel_rfl) _ hv).mono ?_
   rintro e w' ⟨x, rfl, hx, hb⟩
   refine ⟨?_, hb⟩
   rw [val_of hx, List.getD_eq_getElem?_getD, List.getElem?_eq_none (by omega)]
   rfl
section
variable {csz : List Nat} {numc : List Bool} {okT : List Nat} {nt : Nat} {cl : List Cl} {w0 : World} {p1 p2 : jQ} {res : RPat} {ds : List Nat} {i : Nat}
theorem e_digit (h1 : PD csz numc okT nt cl w0 p1 ds) (h2 : PV csz numc okT nt cl w0 p2 (ii (i : Int))) (h3 : RV csz numc okT nt cl w0 res (ii ((ds.getD i 0 : Nat) : Int))) : V csz numc okT nt cl w0 (.call 127) [p1, p2] res := by
 refine ⟨enters_of Tryz.func127 (by kernel_rfl) rfl, fun w vs hb hvs => ?_⟩
 obtain ⟨v1, _, rfl, h4, v2, _, rfl, h5, rfl⟩ := hvs
 obtain rfl := h2 _ _ h5
 refine (digit_ok v1 ds i w (h1 _ _ hb h4)).mono ?_
 rintro e w' ⟨rfl, hb⟩
 exact ⟨_, rfl, h3 w', hb⟩
end
def jH (ds : List Nat) : List Nat := (ds.reverse.dropWhile (fun d => d == 0)).reverse
theorem strip_zero (l : List Nat) : jH (l ++ [0]) = jH l := by simp [jH]
theorem strip_pos (l : List Nat) {d : Nat} (h : d ≠ 0) : jH (l ++ [d]) = l ++ [d] := by simp [jH, h]
theorem strip_nil : jH [] = [] := rfl
theorem take_last {ds : List Nat} {n : Nat} (hn : n < ds.length) : ds.take (n + 1) = ds.take n ++ [ds.getD n 0] := by
 rw [List.take_add_one, List.getD_eq_getElem?_getD, List.getElem?_eq_getElem hn]
 rfl
abbrev cl_trim (B : Nat) (ds : List Nat) (n : Nat) : List Cl := [clF B ds, jm (ii (n : Int)), clP (ds.getD (n - 1) 0), jm (ii ((n - 1 : Nat) : Int)), jm (ii ((ds.getD (n - 1) 0 : Nat) : Int)), clF B (ds.take n)]
noncomputable abbrev C_trim (B : Nat) (ds : List Nat) (n : Nat) (w : World) : Ctx := mkC [1, 1, 1, 1, 1, 1] [false, true, true, true, true, false] [] 21 (cl_trim B ds n) w
theorem trim_C (B : Nat) (ds : List Nat) (n : Nat) (w : World) : (C_trim B ds n w).Ok :=
 cL (cb (clF_ok noT B ds) (cb (cu _) (cb (clP_ok noT _) (cb (cu _) (cb (cu _) (cb (clF_ok noT B _) cD)))))) rfl rfl
def t_trim0 : List cW := [⟨.blt .len [31] 3, [op 0], .val (op 1)⟩]
def t_trim1 : List cW := [⟨.bin .gtr 3, [op 1, vp (ii 0)], .val (vp (.bool true))⟩, ⟨.bin .sub 3, [op 1, vp (ii 1)], .val (op 3)⟩, ⟨.ix 31, [op 0, op 3], .val (op 2)⟩, ⟨.ld 3, [op 2], .val (op 4)⟩, ⟨.bin .eql 3, [op 4, vp (ii 0)], .val (vp (.bool true))⟩]
def t_trim2 : List cW := [⟨.bin .gtr 3, [op 1, vp (ii 0)], .val (vp (.bool true))⟩, ⟨.bin .sub 3, [op 1, vp (ii 1)], .val (op 3)⟩, ⟨.ix 31, [op 0, op 3], .val (op 2)⟩, ⟨.ld 3, [op 2], .val (op 4)⟩, ⟨.bin .eql 3, [op 4, vp (ii 0)], .val (vp (.bool false))⟩]
def t_trim3 : List cW := [⟨.bin .gtr 3, [op 1, vp (ii 0)], .val (vp (.bool false))⟩]
def t_trim4 : List cW := [⟨.sl 31 false true false, [op 0, op 1], .val (op 5)⟩]
noncomputable def b_trim : Code := bodyOf Tryz.f123
theorem trim_ok (v : Value) (ds : List Nat) (w : World) (h : Dg w v ds) {B : Nat} (hB : ∀ k, v.ownBlock = some k → B ≤ k) : Calls Tryz.prog 123 #[v] w (fun e w' => ∃ v', e = .returned v' ∧ Dg w' v' (jH ds) ∧ (∀ k, v'.ownBlock = some k → B ≤ k) ∧ Below w.heap.size w w') := by
 have hlen := h.len
 refine calls_at (C := C_trim B ds ds.length w) (f := 123) (args := [op 0]) Tryz.func123 (c := .seq (cI b_trim) (.seq (cI (cq b_trim)) (.seq (.block 0 (.loop (cP (cP (cI (cq (cq b_trim))))))) (cq (cq (cq b_trim)))))) rfl rfl (Nat.le_of_ble_eq_true rfl) (vs := [v]) ⟨_, _, rfl, (op_isF rfl).2 ⟨h, hB⟩, rfl⟩ (fun a hA => ?_)
 have hT0 : ∀ t ∈ t_trim0, t.Valid (C_trim B ds ds.length w) := ca (e_len cU (pf rfl).pd (rv rfl)) ce
 refine wp_seq (cE (trim_C _ _ _ _) hT0 (x := .normal) (n := 30) (post := [.val 0 (op 0)]) (by kernel_rfl) hA (fun a' w' hA => ?_))
 refine wp_seq (cE (trim_C _ _ _ _) hT0 (x := .normal) (n := 30) (post := [.val 0 (op 0), .val 3 (op 1)]) (by kernel_rfl) hA (fun a' w' hA => ?_))
 refine wp_seq (jz (Θ := Nat) (fun n a w' => n ≤ ds.length ∧ jH (ds.take n) = jH ds ∧ At (C_trim B ds n w) [.val 0 (op 0), .val 3 (op 1)] a w') id ?_ ds.length ⟨Nat.le_refl _, by simp, hA⟩)
 rintro n a w1 ⟨hn, hs, hA⟩
 have hend : jH (ds.take n) = ds.take n → ∀ a' w', At (C_trim B ds n w) [.val 0 (op 0), .val 3 (op 1)] a' w' → (cq (cq (cq b_trim))).wp Tryz.prog (bodyPost Tryz.prog Tryz.f123 (fun e w' => ∃ v', e = .returned v' ∧ Dg w' v' (jH ds) ∧ (∀ k, v'.ownBlock = some k → B ≤ k) ∧ Below w.heap.size w w')) a' w' := by
  intro he a' w' hA
  have hT : ∀ t ∈ t_trim4, t.Valid (C_trim B ds n w) := ca (e_takeF cU elem_nat (pf rfl) (pv rfl) hn (rf rfl)) ce
  refine cE (trim_C _ _ _ _) hT (x := .ret) (n := 30) (post := [.val 2 (op 5)]) (by kernel_rfl) hA (fun a' w' hA => at_ret rfl hA (fun v' hv => ⟨_, rfl, ?_, ((op_isF (ds := ds.take n) rfl).1 hv).2, hA.below⟩))
  have := ((op_isF (ds := ds.take n) rfl).1 hv).1
  rw [← hs, he]
  exact this
 by_cases h0 : n = 0
 · have hT : ∀ t ∈ t_trim3, t.Valid (C_trim B ds n w) := ca (kw (pv rfl) jR (decide_eq_false (by omega))) ce
   exact cE (trim_C _ _ _ _) hT (x := .exit 0) (n := 30) (post := [.val 0 (op 0), .val 3 (op 1)]) (by kernel_rfl) hA (fun a' w' hA => hend (by subst h0; rfl) a' w' hA)
 · obtain ⟨m, rfl⟩ : ∃ m, n = m + 1 := ⟨n - 1, by omega⟩
   by_cases hd : ds.getD m 0 = 0
   · have hT : ∀ t ∈ t_trim1, t.Valid (C_trim B ds (m + 1) w) := ca (kw (pv rfl) jR (decide_eq_true (by omega))) (ca (e_sub (u := (m : Int)) (by omega) (pv rfl) jR (rv rfl) (by omega)) (ca (e_ix cU elem_nat (pf rfl).pd (pv rfl) hn rfl) (ca (e_ld rfl (rv rfl)) (ca (e_eql (pv rfl) jR (decide_eq_true (by simpa using hd))) ce))))
     refine cE (trim_C _ _ _ _) hT (x := .normal) (n := 30) (post := [.val 0 (op 0), .val 3 (op 3)]) (by kernel_rfl) hA (fun a' w' hA => ⟨m, ⟨by omega, ?_, ?_⟩, by simp⟩)
     · rw [← hs, take_last hn, hd, strip_zero]
     · exact at_re hA [(0, 0), (1, 3)] (cH rfl (cH rfl prs_nil)) rfl rfl
   · have hT : ∀ t ∈ t_trim2, t.Valid (C_trim B ds (m + 1) w) := ca (kw (pv rfl) jR (decide_eq_true (by omega))) (ca (e_sub (u := (m : Int)) (by omega) (pv rfl) jR (rv rfl) (by omega)) (ca (e_ix cU elem_nat (pf rfl).pd (pv rfl) hn rfl) (ca (e_ld rfl (rv rfl)) (ca (e_eql (pv rfl) jR (decide_eq_false (by simpa using hd))) ce))))
     exact cE (trim_C _ _ _ _) hT (x := .exit 0) (n := 30) (post := [.val 0 (op 0), .val 3 (op 1)]) (by kernel_rfl) hA (fun a' w' hA => hend (by rw [take_last hn, strip_pos _ hd]) a' w' hA)
section
variable {csz : List Nat} {numc : List Bool} {okT : List Nat} {nt : Nat} {cl : List Cl} {w0 : World} {p1 p2 : jQ} {res : RPat} {ds : List Nat}
theorem e_trim (h1 : PD csz numc okT nt cl w0 p1 ds) (h3 : RD csz numc okT nt cl w0 res (jH ds)) : V csz numc okT nt cl w0 (.call 123) [p1] res := by
 refine ⟨enters_of Tryz.func123 (by kernel_rfl) rfl, fun w vs hb hvs => ?_⟩
 obtain ⟨v1, _, rfl, h4, rfl⟩ := hvs
 refine (trim_ok v1 ds w (h1 _ _ hb h4) (B := 0) (fun _ _ => Nat.zero_le _)).mono ?_
 rintro e w' ⟨v', rfl, hv, _, hb⟩
 exact ⟨_, rfl, h3 w' v' hv, hb⟩
theorem e_trimF {B : Nat} (h1 : PF csz numc okT nt cl w0 p1 B ds) (h3 : RF csz numc okT nt cl w0 res B (jH ds)) : V csz numc okT nt cl w0 (.call 123) [p1] res := by
 refine ⟨enters_of Tryz.func123 (by kernel_rfl) rfl, fun w vs hb hvs => ?_⟩
 obtain ⟨v1, _, rfl, h4, rfl⟩ := hvs
 obtain ⟨g1, g2⟩ := h1 _ _ hb h4
 refine (trim_ok v1 ds w g1 g2).mono ?_
 rintro e w' ⟨v', rfl, hv, hB, hb⟩
 exact ⟨_, rfl, h3 w' v' hv hB, hb⟩
end
def cG : List Nat → Nat
 | [] => 0
 | d :: ds => d + 10000 * cG ds
def Dig (ds : List Nat) : Prop := ∀ i, ds.getD i 0 < 10000
theorem nat_head (ds : List Nat) : cG ds = ds.getD 0 0 + 10000 * cG ds.tail := by cases ds <;> simp [cG]
theorem getD_tail (ds : List Nat) (j : Nat) : ds.tail.getD j 0 = ds.getD (j + 1) 0 := by cases ds <;> simp
theorem Dig.tail {ds : List Nat} (h : Dig ds) : Dig ds.tail := fun i => by rw [getD_tail]; exact h _
theorem nat_ext : ∀ {ds es : List Nat}, (∀ j, ds.getD j 0 = es.getD j 0) → cG ds = cG es
 | [], [], _ => rfl
 | [], e :: es, h => by
  have h0 := h 0
  have := nat_ext (ds := []) (es := es) (fun j => by simpa using h (j + 1))
  simp at h0
  simp only [cG] at this ⊢
  omega
 | d :: ds, es, h => by
  have h0 := h 0
  have := nat_ext (ds := ds) (es := es.tail) (fun j => by rw [getD_tail]; simpa using h (j + 1))
  rw [nat_head es]
  simp only [cG]
  simp at h0
  rw [this]
  simp [List.getD_eq_getElem?_getD, h0]
theorem nat_lt : ∀ {i : Nat} {ds es : List Nat}, Dig ds → ds.getD i 0 < es.getD i 0 → (∀ j, i < j → ds.getD j 0 = es.getD j 0) → cG ds < cG es
 | 0, ds, es, hd, hi, h => by
  have := nat_ext (ds := ds.tail) (es := es.tail) (fun j => by rw [getD_tail, getD_tail]; exact h _ (by omega))
  rw [nat_head ds, nat_head es, this]
  omega
 | i + 1, ds, es, hd, hi, h => by
  have := nat_lt (i := i) (ds := ds.tail) (es := es.tail) hd.tail (by rw [getD_tail, getD_tail]; exact hi) (fun j hj => by rw [getD_tail, getD_tail]; exact h _ (by omega))
  have h0 := hd 0
  rw [nat_head ds, nat_head es]
  omega
def idx : Nat → Int
 | 0 => -1
 | m + 1 => (m : Int)
abbrev cl_order (ds es : List Nat) (k : Nat) : List Cl := [ko ds, ko es, jm (ii (idx k)), jm (ii ((ds.getD (k - 1) 0 : Nat) : Int)), jm (ii ((es.getD (k - 1) 0 : Nat) : Int)), jm (ii (idx (k - 1))), jm (ii (ds.length : Int)), jm (ii (es.length : Int)), jm (ii (if (es.length : Int) > (ds.length : Int) then (es.length : Int) else (ds.length : Int)))]
noncomputable abbrev C_order (ds es : List Nat) (k : Nat) (w : World) : Ctx := mkC [1, 1, 1, 1, 1, 1, 1, 1, 1] [false, false, true, true, true, true, true, true, true] [] 30 (cl_order ds es k) w
theorem order_C (ds es : List Nat) (k : Nat) (w : World) : (C_order ds es k w).Ok :=
 cL (cb (cF noT ds) (cb (cF noT es) (cb (cu _) (cb (cu _) (cb (cu _) (cb (cu _) (cb (cu _) (cb (cu _) (cb (cu _) cD))))))))) rfl rfl
def t_order0 : List cW := [⟨.blt .len [31] 3, [op 0], .val (op 6)⟩, ⟨.blt .len [31] 3, [op 1], .val (op 7)⟩, ⟨.blt .max [3, 3] 3, [op 6, op 7], .val (op 8)⟩, ⟨.bin .sub 3, [op 8, vp (ii 1)], .val (op 2)⟩]
def t_order1 (b c : Bool) : List cW := [⟨.bin .geq 3, [op 2, vp (ii 0)], .val (vp (.bool true))⟩, ⟨.call 127, [op 0, op 2], .val (op 3)⟩, ⟨.call 127, [op 1, op 2], .val (op 4)⟩, ⟨.bin .lss 3, [op 3, op 4], .val (vp (.bool b))⟩, ⟨.bin .gtr 3, [op 3, op 4], .val (vp (.bool c))⟩, ⟨.bin .sub 3, [op 2, vp (ii 1)], .val (op 5)⟩]
def t_order2 : List cW := [⟨.bin .geq 3, [op 2, vp (ii 0)], .val (vp (.bool false))⟩]
noncomputable def b_order : Code := bodyOf Tryz.f89
def cmpN (m n : Nat) : Int := if m < n then -1 else if n < m then 1 else 0
theorem order_ok (v u : Value) (ds es : List Nat) (w : World) (h : Dg w v ds) (h' : Dg w u es) (hds : Dig ds) (hes : Dig es) : Calls Tryz.prog 89 #[v, u] w (fun e w' => e = .returned (ii (cmpN (cG ds) (cG es))) ∧ Below w.heap.size w w') := by
 have hl := h.len
 have hl' := h'.len
 have h0 : ∀ (ds : List Nat) j, ds.length ≤ j → ds.getD j 0 = 0 := fun ds j hj => by rw [List.getD_eq_getElem?_getD, List.getElem?_eq_none hj]; rfl
 obtain ⟨k0, hk0, hk1, hk2⟩ : ∃ k0, idx k0 = (if (es.length : Int) > (ds.length : Int) then (es.length : Int) else (ds.length : Int)) - 1 ∧ ds.length ≤ k0 ∧ es.length ≤ k0 := by
  refine ⟨max ds.length es.length, ?_, by omega, by omega⟩
  split
  · rw [show max ds.length es.length = es.length by omega]
    cases hk : es.length <;> simp [idx] <;> omega
  · rw [show max ds.length es.length = ds.length by omega]
    cases hk : ds.length <;> simp [idx] <;> omega
 have hk3 : idx k0 ≤ 9223372036854775807 ∧ -1 ≤ idx k0 := by rw [hk0]; split <;> omega
 refine calls_at (C := C_order ds es k0 w) (f := 89) (args := [op 0, op 1]) Tryz.func89 (c := .seq (cI b_order) (.seq (.seq (cI (cI (cq b_order))) (.block 0 (.loop (cP (cP (cq (cI (cq b_order)))))))) (cq (cq b_order)))) rfl rfl (Nat.le_of_ble_eq_true rfl) (vs := [v, u]) ⟨_, _, rfl, (op_isD rfl).2 h, _, _, rfl, (op_isD rfl).2 h', rfl⟩ (fun a hA => ?_)
 have hT0 : ∀ t ∈ t_order0, t.Valid (C_order ds es k0 w) := ca (e_len cU (pd rfl) (rv rfl)) (ca (e_len cU (pd rfl) (rv rfl)) (ca (e_max (pv rfl) (pv rfl) (rv rfl)) (ca (e_sub hk0.symm (pv rfl) jR (rv rfl) (by omega)) ce)))
 refine wp_seq (cE (order_C _ _ _ _) hT0 (x := .normal) (n := 30) (post := [.val 0 (op 0), .val 1 (op 1)]) (by kernel_rfl) hA (fun a' w' hA => ?_))
 refine wp_seq (wp_seq (cE (order_C _ _ _ _) hT0 (x := .normal) (n := 30) (post := [.val 0 (op 0), .val 1 (op 1), .val 5 (op 2)]) (by kernel_rfl) hA (fun a' w' hA => ?_)))
 have hR : ∀ {f g : Act → World → Prop} a' w', bodyPost Tryz.prog Tryz.f89 (fun e w' => e = .returned (ii (cmpN (cG ds) (cG es))) ∧ Below w.heap.size w w') .ret a' w' → Exit.then f (Exit.inBlock 0 (Exit.then g (bodyPost Tryz.prog Tryz.f89 (fun e w' => e = .returned (ii (cmpN (cG ds) (cG es))) ∧ Below w.heap.size w w')))) Xt.ret.to a' w' := fun _ _ h => h
 refine jz (Θ := Nat) (fun k a w' => k ≤ k0 ∧ (∀ j, k ≤ j → ds.getD j 0 = es.getD j 0) ∧ At (C_order ds es k w) [.val 0 (op 0), .val 1 (op 1), .val 5 (op 2)] a w') id ?_ k0 ⟨Nat.le_refl _, fun j hj => by rw [h0 _ _ (by omega), h0 _ _ (by omega)], hA⟩
 rintro k a w1 ⟨hk, hs, hA⟩
 cases k with
 | zero =>
  have hT : ∀ t ∈ t_order2, t.Valid (C_order ds es 0 w) := ca (e_geq (pv rfl) jR (decide_eq_false (by decide))) ce
  refine cE (order_C _ _ _ _) hT (x := .exit 0) (n := 30) (post := [.val 0 (op 0)]) (by kernel_rfl) hA (fun a' w' hA => ?_)
  refine cE (order_C _ _ _ _) hT (x := .ret) (n := 30) (post := [.val 4 (vp (ii 0))]) (by kernel_rfl) hA (fun a' w' hA => at_ret rfl hA (fun v' hv => ⟨?_, hA.below⟩))
  rw [kp.1 hv, nat_ext (fun j => hs j (Nat.zero_le _))]
  simp [cmpN]
 | succ m =>
  have hm : (m : Int) ≤ 9223372036854775807 := by
   have : idx (m + 1) ≤ idx k0 := by cases k0 with | zero => omega | succ k0 => show (m : Int) ≤ (k0 : Int); omega
   have : (m : Int) ≤ idx k0 := this
   omega
  have hT : ∀ b c, decide (((ds.getD m 0 : Nat) : Int) < ((es.getD m 0 : Nat) : Int)) = b → decide (((ds.getD m 0 : Nat) : Int) > ((es.getD m 0 : Nat) : Int)) = c → ∀ t ∈ t_order1 b c, t.Valid (C_order ds es (m + 1) w) := fun b c hb hc =>
   ca (e_geq (x := (m : Int)) (pv rfl) jR (decide_eq_true (by omega))) (ca (e_digit (i := m) (pd rfl) (pv rfl) (rv rfl)) (ca (e_digit (i := m) (pd rfl) (pv rfl) (rv rfl)) (ca (kj (pv rfl) (pv rfl) hb) (ca (kw (pv rfl) (pv rfl) hc) (ca (e_sub (x := (m : Int)) (u := idx m) (by cases m with | zero => rfl | succ j => show ((j + 1 : Nat) : Int) - 1 = (j : Int); omega) (pv rfl) jR (rv rfl) (by cases m with | zero => decide | succ j => show _ ≤ (j : Int) ∧ (j : Int) ≤ _; omega)) ce)))))
  rcases Nat.lt_trichotomy (ds.getD m 0) (es.getD m 0) with hd | hd | hd
  · refine cE (order_C _ _ _ _) (hT true false (decide_eq_true (by omega)) (decide_eq_false (by omega))) (x := .ret) (n := 30) (post := [.val 4 (vp (ii (-1)))]) (by kernel_rfl) hA (fun a' w' hA => hR a' w' (at_ret rfl hA (fun v' hv => ⟨?_, hA.below⟩)))
    rw [kp.1 hv, cmpN, if_pos (nat_lt hds hd (fun j hj => hs j hj))]
  · refine cE (order_C _ _ _ _) (hT false false (decide_eq_false (by omega)) (decide_eq_false (by omega))) (x := .normal) (n := 30) (post := [.val 0 (op 0), .val 1 (op 1), .val 5 (op 5)]) (by kernel_rfl) hA (fun a' w' hA => ⟨m, ⟨by omega, fun j hj => ?_, ?_⟩, by simp⟩)
    · rcases Nat.lt_or_ge m j with h | h
      · exact hs j h
      · rw [show j = m by omega]; exact hd
    · exact at_re hA [(0, 0), (1, 1), (2, 5)] (cH rfl (cH rfl (cH rfl prs_nil))) rfl rfl
  · refine cE (order_C _ _ _ _) (hT false true (decide_eq_false (by omega)) (decide_eq_true (by omega))) (x := .ret) (n := 30) (post := [.val 4 (vp (ii 1))]) (by kernel_rfl) hA (fun a' w' hA => hR a' w' (at_ret rfl hA (fun v' hv => ⟨?_, hA.below⟩)))
    have := nat_lt hes hd (fun j hj => (hs j hj).symm)
    rw [kp.1 hv, cmpN, if_neg (by omega), if_pos this]
end Sym
open Go Go.RowKit Go.Proofs Lim
namespace Sym
def digs (n : Nat) : List Nat := if n = 0 then [] else n % 10000 :: digs (n / 10000)
theorem digs_zero : digs 0 = [] := by unfold digs; simp
theorem digs_pos {n : Nat} (h : n ≠ 0) : digs n = n % 10000 :: digs (n / 10000) := by rw [digs, if_neg h]
theorem digs_len : ∀ (k n : Nat), n < 10000 ^ k → (digs n).length ≤ k
 | 0, n, h => by
  have : n = 0 := by simpa using h
  subst this; simp [digs_zero]
 | k + 1, n, h => by
  by_cases h0 : n = 0
  · subst h0; simp [digs_zero]
  · rw [digs_pos h0]
    have := digs_len k (n / 10000) (by rw [Nat.div_lt_iff_lt_mul (by decide)]; rw [Nat.pow_succ] at h; exact h)
    simp only [List.length_cons]
    omega
abbrev Own (B : Nat) (w : World) (z : Value) (l : List Nat) : Prop := w.ownsRow B 3 1 z l.length (l.map (fun d : Nat => ii (d : Int)))
theorem Own.below {B : Nat} {w w' : World} {z : Value} {l : List Nat} (h : Own B w z l) (hb : Below w.heap.size w w') : Own B w' z l :=
 h.kept (row := none) ⟨hb.os, hb.tape, hb.output, hb.size, fun k hk _ => hb.block k hk⟩ (by cases z.ownBlock <;> simp)
theorem Own.dg {B : Nat} {w : World} {z : Value} {l : List Nat} (h : Own B w z l) : Dg w z l := by
 obtain ⟨h1, h2⟩ := h
 rcases h2 with ⟨rfl, h3⟩ | ⟨g, cap, cur, rfl, hb, hg, hn, hc, hs, ht⟩
 · have : l = [] := List.eq_nil_of_length_eq_zero h3
   subst this
   exact Dg.nil w
 · refine ⟨_, cap, rfl, hn, by simp only [maxLen] at hc; omega, fun _ => ⟨g, 0, rfl, ⟨cur, _, hg⟩, fun i hi => ?_⟩⟩
   have h5 : (cur.toList.take (l.length * 1))[i]? = (l.map (fun d : Nat => ii (d : Int)))[i]? := by rw [ht]
   rw [List.getElem?_take, if_pos (by omega), List.getElem?_map, List.getElem?_eq_getElem hi] at h5
   simp only [World.cell?, hg, Nat.zero_add]
   rw [← Array.getElem?_toList, h5]
   simp [List.getD, hi]
theorem Own.one {B : Nat} {w : World} {z : Value} {l : List Nat} (h : Own B w z l) : z.oneCell' = true := by
 rcases h.2 with ⟨rfl, _⟩ | ⟨g, cap, cur, rfl, _⟩ <;> rfl
theorem Own.fresh {B k : Nat} {w : World} (h : w.heap[k]? = some (.cells #[] 3 (0, 0))) (hB : B ≤ k) : Own B w (.slice (some ⟨k, 0, none⟩) 0 0) [] :=
 ⟨rfl, .inr ⟨k, 0, #[], rfl, hB, h, Nat.le_refl _, by decide, rfl, rfl⟩⟩
theorem wp_add {ops : Array Oper} {rest : List Oper} {o : Oper} {a : Act} {w : World} {Q : Exit → Act → World → Prop} {B s x d k : Nat} {z : Value} {l : List Nat} (hgd : o.guard = none) (ho : o.op = .call { callee := .builtin .append, args := #[.tmp s, .tmp x], argTypes := #[31, 31] })
 (hs : a.tmps[s]? = some z) (hx : a.tmps[x]? = some (.slice (some ⟨k, 0, none⟩) 1 1)) (hk : w.heap[k]? = some (.cells #[ii (d : Int)] 3 (0, 0))) (hown : Own B w z l) (hB : B ≤ w.heap.size) (hl : l.length < 1000000000)
 (h : ∀ z' w', Own B w' z' (l ++ [d]) → w.grownBy w' z.ownBlock → wpList Tryz.prog ops Q rest (a.put o.dst z') w') : wpList Tryz.prog ops Q (o :: rest) a w := by
 have hs' : a.eval (.tmp s) = z := by simp [Act.eval, Array.getD_eq_getD_getElem?, hs]
 have hx' : a.eval (.tmp x) = .slice (some ⟨k, 0, none⟩) 1 1 := by simp [Act.eval, Array.getD_eq_getD_getElem?, hx]
 obtain ⟨i, hi, hz, q1, q2⟩ : ∃ i, Tryz.prog.info? 3 = some i ∧ i.zero = some (ii 0) ∧ i.size = 1 ∧ i.bytes = 8 := by
  have h : (Tryz.prog.info? 3).map (fun i => (i.zero, i.size, i.bytes)) = some (some (ii 0), 1, 8) := by kernel_rfl
  obtain ⟨i, h1, h2⟩ := Option.map_eq_some_iff.1 h
  simp only [Prod.mk.injEq] at h2
  exact ⟨i, h1, h2.1, h2.2.1, h2.2.2⟩
 refine wpList_append_own w hgd (.tmp s) (.tmp x) 31 ho B 3 i (ii 0) 1 8 (by kernel_rfl) hi hz q1 q2 rfl (by decide) z l.length _ hs' hown ⟨k, 0, none⟩ 1 1 [ii (d : Int)] hx' rfl ?_ ?_ (by simp only [maxLen]; omega) (by omega) hB ?_
 · intro j u hj
   cases j with
   | zero =>
    have hj : u = ii (d : Int) := by simpa using hj.symm
    subst hj
    show w.cell? ⟨k, 0, none⟩ = _
    simp [World.cell?, hk]
   | succ j => simp at hj
 · intro u hu
   have : u = ii (d : Int) := by simpa using hu
   subst this; rfl
 · intro z' w' h1 h2 _
   refine h z' w' ?_ h2
   have : Own B w' z' (l ++ [d]) = w'.ownsRow B 3 1 z' (l.length + 1) ((l.map (fun d : Nat => ii (d : Int))) ++ [ii (d : Int)]) := by simp [Own]
   rw [this]
   exact h1
theorem put_self {a : Act} {d : Nat} {v : Value} (h : d < a.tmps.size) : (a.put (some d) v).tmps[d]? = some v := by simp [Act.put, h]
theorem put_ne {a : Act} {d t : Nat} {v : Value} (h : t ≠ d) : (a.put (some d) v).tmps[t]? = a.tmps[t]? := by simp [Act.put, Ne.symm h]
theorem wp_empty {ops : Array Oper} {rest : List Oper} {o : Oper} {a : Act} {w : World} {Q : Exit → Act → World → Prop} (hgd : o.guard = none) (ho : o.op = .buildSlice 31 0 #[])
 (h : wpList Tryz.prog ops Q rest (a.put o.dst (.slice (some ⟨w.heap.size, 0, none⟩) 0 0)) (w.alloc (.cells #[] 3))) : wpList Tryz.prog ops Q (o :: rest) a w := by
 refine wpList_plain hgd fun K hK => ?_
 have hr : (Instr.buildSlice 31 0 #[]).run Tryz.prog w = .ok (.slice (some ⟨w.heap.size, 0, none⟩) 0 0) (w.alloc (.cells #[] 3)) := by
  have hu : Tryz.prog.underlying 31 = some (.slice 3) := by kernel_rfl
  simp [Instr.buildSlice, run_underlying hu, size_int, Instr.fill, newRow]
  rw [show Array.map (fun _ : Nat => (default : Value)) (Array.range 0) = #[] from Array.eq_empty_of_size_eq_zero (by rw [Array.size_map, Array.size_range])]
 unfold Oper.wp execOp
 simp only [ho, Array.map_empty, List.map_toArray, List.map_nil, Sem.run_bind, hr, Result.andThen_ok]
 exact hK _ _ h
abbrev ui (n : Nat) : Value := .int .u64 (n : Int)
theorem clWu_ok {okT : List Nat} {B : Nat} (n : Nat) : (clW (ui n)).Ok okT B := jf rfl
theorem clWi_ok {okT : List Nat} {B : Nat} (n : Int) : (clW (ii n)).Ok okT B := jf rfl
abbrev cl_small (n : Nat) (z : Value) : List Cl := [clW (ui n), clW z, clW (ui (n % 10000)), clW (ii ((n % 10000 : Nat) : Int)), clW (ui (n / 10000))]
noncomputable abbrev C_small (n : Nat) (z : Value) (w : World) : Ctx := mkC [1, 1, 1, 1, 1] [false, false, false, false, false] [] 16 (cl_small n z) w
theorem small_C (n : Nat) {z : Value} (hz : z.oneCell' = true) (w : World) : (C_small n z w).Ok :=
 cL (cb (clWu_ok _) (cb (jf hz) (cb (clWu_ok _) (cb (clWi_ok _) (cb (clWu_ok _) cD))))) rfl rfl
def t_small1 (b : Bool) : List cW := [⟨.bin .gtr 23, [op 0, vp (ui 0)], .val (vp (.bool b))⟩]
def t_small2 : List cW := [⟨.bin .rem 23, [op 0, vp (ui 10000)], .val (op 2)⟩, ⟨.cv 23 3, [op 2], .val (op 3)⟩, ⟨.bin .quo 23, [op 0, vp (ui 10000)], .val (op 4)⟩]
noncomputable def b_small : Code := bodyOf Tryz.f87
noncomputable def l_small : Code := cP (cP (cI (cq (cq b_small))))
noncomputable def r_small : Code := cI (cP (cq l_small))
theorem small_T (n : Nat) (hn : n < 18446744073709551616) (z : Value) (w : World) : ∀ t ∈ t_small2, t.Valid (C_small n z w) :=
 ca (e_rem (k := .u64) (m := n) (n := 10000) (jj rfl) jR (kn rfl) (by decide)) (ca (e_cv (by kernel_rfl) (by kernel_rfl) (by kernel_rfl) (jj rfl) (kn rfl) (by rw [IntKind.wrap_i64]; omega)) (ca (e_quo (k := .u64) (m := n) (n := 10000) (jj rfl) jR (kn rfl) (by decide) (by rw [IntKind.wrap_u64]; omega)) ce))
theorem small_ok (n0 : Nat) (hn0 : n0 < 18446744073709551616) (w : World) : Calls Tryz.prog 87 #[ui n0] w (fun e w' => ∃ v, e = .returned v ∧ Dg w' v (digs n0) ∧ Below w.heap.size w w') := by
 have hlen : (digs n0).length ≤ 5 := digs_len 5 n0 (by omega)
 refine calls_at (C := C_small n0 (ii 0) w) (f := 87) (args := [op 0]) Tryz.func87 (c := .seq (cI b_small) (.seq (cI (cq b_small)) (.seq (.block 0 (.loop l_small)) (cq (cq (cq b_small)))))) rfl rfl (Nat.le_of_ble_eq_true rfl) (vs := [ui n0]) ⟨_, _, rfl, (cS rfl).2 rfl, rfl⟩ (fun a hA => ?_)
 refine wp_seq (cE (small_C n0 rfl w) (T := []) ce (x := .normal) (n := 30) (post := [.val 0 (op 0)]) (by kernel_rfl) hA (fun a' w' hA => ?_))
 obtain ⟨s0, _⟩ := item_v rfl hA.items
 refine wp_seq ?_
 show (Code.region 1 (opsOf (cI (cq b_small))).toArray false).wp Tryz.prog _ _ _
 refine wp_region_lit (wp_empty rfl rfl ?_)
 have hz : Own w.heap.size (w'.alloc (.cells #[] 3)) (.slice (some ⟨w'.heap.size, 0, none⟩) 0 0) [] := Own.fresh (heap_alloc_new w' _) hA.below.size
 have hb1 : Below w.heap.size w (w'.alloc (.cells #[] 3)) := hA.below.alloc hA.below.size _
 have hsz : 4 < a'.tmps.size := by rw [hA.size]; show 4 < 16; decide
 have hA : At (C_small n0 (.slice (some ⟨w'.heap.size, 0, none⟩) 0 0) (w'.alloc (.cells #[] 3))) [.val 0 (op 0), .val 4 (op 1)] (a'.put (some 4) (.slice (some ⟨w'.heap.size, 0, none⟩) 0 0)) (w'.alloc (.cells #[] 3)) :=
  at_of [(0, 0, ui n0), (4, 1, .slice (some ⟨w'.heap.size, 0, none⟩) 0 0)] ((put_defers _ _ _).trans hA.defers) ((put_size _ _ _).trans hA.size) (vals_cons ⟨(put_ne (show (0 : Nat) ≠ 4 by decide)).trans s0, rfl⟩ (vals_cons ⟨put_self hsz, rfl⟩ vals_nil))
 refine ops_end (small_C n0 rfl _) (T := []) ce (post := [.val 0 (op 0), .val 3 (op 1)]) (by kernel_rfl) hA (fun a' w2 hA => ?_)
 obtain ⟨s0, hI⟩ := item_v rfl hA.items
 obtain ⟨s3, _⟩ := item_v rfl hI
 refine wp_seq (jz (Θ := Nat) (fun n a w1 => ∃ z l, digs n0 = l ++ digs n ∧ n ≤ n0 ∧ a.defers = [] ∧ a.tmps.size = 16 ∧ a.tmps[0]? = some (ui n) ∧ a.tmps[3]? = some z ∧ Own w.heap.size w1 z l ∧ Below w.heap.size w w1) id ?_ n0 ⟨_, [], rfl, Nat.le_refl _, hA.defers, hA.size, s0, s3, hz.below hA.below, hb1.trans (hA.below.mono hb1.size)⟩)
 rintro n a w1 ⟨z, l, hl, hn, hd, hs, s0, s3, hown, hb⟩
 have hA : At (C_small n z w1) [.val 0 (op 0), .val 3 (op 1)] a w1 := at_of [(0, 0, ui n), (3, 1, z)] hd hs (vals_cons ⟨s0, rfl⟩ (vals_cons ⟨s3, rfl⟩ vals_nil))
 have hC := small_C n hown.one w1
 by_cases h0 : n = 0
 · subst h0
   have hT : ∀ t ∈ t_small1 false, t.Valid (C_small 0 z w1) := ca (kw (jj rfl) jR (decide_eq_false (by omega))) ce
   refine wp_seq (cE hC hT (x := .exit 0) (n := 30) (post := [.val 3 (op 1)]) (by kernel_rfl) hA (fun a' w' hA => ?_))
   refine cE hC (T := []) ce (x := .ret) (n := 30) (post := [.val 2 (op 1)]) (by kernel_rfl) hA (fun a' w' hA => at_ret rfl hA (fun v hv => ⟨v, rfl, ?_, ?_⟩))
   · rw [(cS rfl).1 hv, hl, digs_zero, List.append_nil]
     exact (hown.below hA.below).dg
   · exact hb.trans (hA.below.mono hb.size)
 · have hT : ∀ t ∈ t_small1 true, t.Valid (C_small n z w1) := ca (kw (jj rfl) jR (decide_eq_true (by omega))) ce
   refine wp_seq (cE hC hT (x := .normal) (n := 30) (post := [.val 0 (op 0), .val 3 (op 1)]) (by kernel_rfl) hA (fun a' w' hA => ?_))
   refine wp_block (wp_seq ?_)
   obtain ⟨s0, hI⟩ := item_v rfl hA.items
   obtain ⟨s3, _⟩ := item_v rfl hI
   have hd := hA.defers
   have hs := hA.size
   have hown := hown.below hA.below
   have hb := hb.trans (hA.below.mono hb.size)
   have hA : At (C_small n z w') [.val 0 (op 0), .val 3 (op 1)] a' w' := at_of [(0, 0, ui n), (3, 1, z)] hd hs (vals_cons ⟨s0, rfl⟩ (vals_cons ⟨s3, rfl⟩ vals_nil))
   have hT := small_T n (by omega) z w'
   show (Code.region 3 (opsOf r_small).toArray false).wp Tryz.prog _ _ _
   refine wp_region_lit ?_
   show wpList _ _ _ ((opsOf r_small).take 5 ++ (opsOf r_small).drop 5) _ _
   refine ops_is (small_C n hown.one w') hT (post := [.val 0 (op 0), .val 7 (op 1), .own 11 3 1 [.cls 3 1]]) (by kernel_rfl) hA (fun a3 w3 hA => ?_)
   obtain ⟨s0, hI⟩ := item_v rfl hA.items
   obtain ⟨s7, hI⟩ := item_v rfl hI
   obtain ⟨⟨k, vs, s11, hk, hkc, hvs⟩, _⟩ := hI
   have hvs : vs = [ii ((n % 10000 : Nat) : Int)] := by
    obtain ⟨xs, ys, rfl, ⟨f, hE, rfl⟩, hy⟩ := hvs
    rw [show ys = [] from hy]
    have hE : f 0 = ii ((n % 10000 : Nat) : Int) := hE
    simp [List.range_succ, hE]
   subst hvs
   have hB : w.heap.size ≤ w3.heap.size := Nat.le_trans hb.size hA.below.size
   have hll : l.length < 1000000000 := by
    have : (digs n0).length = l.length + (digs n).length := by rw [hl, List.length_append]
    omega
   have hb := hb.trans (hA.below.mono hb.size)
   have hown := hown.below hA.below
   refine wp_add rfl rfl s7 s11 hkc hown hB hll (fun z' w4 hown' hgr => ?_)
   have hsz : 12 < a3.tmps.size := by rw [hA.size]; show 12 < 16; decide
   have hb4 : Below w.heap.size w w4 := hb.trans ⟨hgr.os, hgr.tape, hgr.output, hgr.size, fun i hi => hgr.block i (by omega) (fun e => by have := hown.lt i e.symm; omega)⟩
   have hA : At (C_small n z' w4) [.val 0 (op 0), .val 12 (op 1)] (a3.put (some 12) z') w4 :=
    at_of [(0, 0, ui n), (12, 1, z')] ((put_defers _ _ _).trans hA.defers) ((put_size _ _ _).trans hA.size) (vals_cons ⟨(put_ne (show (0 : Nat) ≠ 12 by decide)).trans s0, rfl⟩ (vals_cons ⟨put_self hsz, rfl⟩ vals_nil))
   have hC := small_C n hown'.one w4
   refine ops_end hC (T := []) ce (post := [.val 0 (op 0), .val 3 (op 1)]) (by kernel_rfl) hA (fun a5 w5 hA => ?_)
   show (cq (cP (cq l_small))).wp Tryz.prog _ _ _
   have hb5 := hb4.trans (hA.below.mono hb4.size)
   have hown5 := hown'.below hA.below
   obtain ⟨s0, hI⟩ := item_v rfl hA.items
   obtain ⟨s3, _⟩ := item_v rfl hI
   have hA : At (C_small n z' w5) [.val 0 (op 0), .val 3 (op 1)] a5 w5 := at_of [(0, 0, ui n), (3, 1, z')] hA.defers hA.size (vals_cons ⟨s0, rfl⟩ (vals_cons ⟨s3, rfl⟩ vals_nil))
   refine cE (small_C n hown'.one w5) (small_T n (by omega) z' w5) (x := .normal) (n := 30) (post := [.val 0 (op 4), .val 3 (op 1)]) (by kernel_rfl) hA (fun a6 w6 hA => ?_)
   obtain ⟨s0, hI⟩ := item_v rfl hA.items
   obtain ⟨s3, _⟩ := item_v rfl hI
   refine ⟨n / 10000, ⟨z', l ++ [n % 10000], ?_, by omega, hA.defers, hA.size, s0, s3, hown5.below hA.below, hb5.trans (hA.below.mono hb5.size)⟩, by show n / 10000 < n; omega⟩
   rw [hl, digs_pos h0, List.append_assoc]
   rfl
end Sym
open Go Go.RowKit Go.Proofs Lim
namespace Sym
noncomputable def CV (nt : Nat) (vl : List Value) (w : World) : Ctx := mkC (vl.map (fun _ => 1)) (vl.map (fun _ => false)) [] nt (vl.map clW) w
def ones : List Value → Bool
 | [] => true
 | v :: l => match v.oneCell' with
  | true => ones l
  | false => false
theorem L_nil (vl : List Value) : (vl.map clW).flatMap (·.L) = [] := by
 induction vl with
 | nil => rfl
 | cons v l ih => exact ih
theorem CV_ok {nt : Nat} {vl : List Value} {w : World} (h : ∀ v ∈ vl, v.oneCell' = true) : (CV nt vl w).Ok := by
 refine cL (fun x hx => ?_) (by rw [List.map_map]; rfl) (by rw [List.map_map]; rfl) (.inl (L_nil vl))
 obtain ⟨v, hv, rfl⟩ := List.mem_map.1 hx
 exact jf (h v hv)
theorem cR : ∀ v ∈ ([] : List Value), v.oneCell' = true := fun t h => by simp at h
theorem cg {a : Value} {l : List Value} (h : a.oneCell' = true) (k : ∀ v ∈ l, v.oneCell' = true) : ∀ t ∈ a :: l, t.oneCell' = true := fun t ht => by
 rcases List.mem_cons.1 ht with rfl | ht
 · exact h
 · exact k t ht
def Sl (a : Act) (vl : List Value) : List (Nat × Nat) → Prop
 | [] => True
 | p :: l => a.tmps[p.1]? = some (vl.getD p.2 undef) ∧ Sl a vl l
structure kl (nt : Nat) (vl : List Value) (is : List (Nat × Nat)) (a : Act) : Prop where
 defers : a.defers = []
 size : a.tmps.size = nt
 sl : Sl a vl is
def cT : List (Nat × Nat) → List Item
 | [] => []
 | p :: l => .val p.1 (op p.2) :: cT l
def inVl : List (Nat × Nat) → Nat → Bool
 | [], _ => true
 | p :: l, n => match Nat.blt p.2 n with
  | true => inVl l n
  | false => false
theorem getVl {vl : List Value} {c : Nat} (h : c < vl.length) : (vl.map clW)[c]? = some (clW (vl.getD c undef)) := by
 rw [List.getElem?_map, List.getElem?_eq_getElem h]
 simp [List.getD, h]
theorem kl.at {nt : Nat} {vl : List Value} {is : List (Nat × Nat)} {a : Act} {w : World} (h : kl nt vl is a) (hi : inVl is vl.length = true) : At (CV nt vl w) (cT is) a w := by
 refine ⟨Below.refl _ _, h.defers, h.size, ?_, fun k hk => noL (L_nil vl) hk⟩
 have key : ∀ (is : List (Nat × Nat)) bs, Sl a vl is → inVl is vl.length = true → jd (CV nt vl w) a w (cT is) bs := by
  intro is
  induction is with
  | nil => intro _ _ _; trivial
  | cons p l ih =>
   intro bs h hi
   unfold inVl at hi
   split at hi
   · rename_i hp
     exact ⟨⟨_, h.1, (cS (getVl (by simpa using hp))).2 rfl⟩, ih bs h.2 hi⟩
   · cases hi
 exact key is [] h.sl hi
theorem items_sl {nt : Nat} {vl : List Value} {a : Act} {w0 w : World} {rest : List Item} : ∀ {is : List (Nat × Nat)} {bs : List Nat}, inVl is vl.length = true → jd (CV nt vl w0) a w (cT is ++ rest) bs → Sl a vl is ∧ jd (CV nt vl w0) a w rest bs
 | [], bs, _, h => ⟨trivial, h⟩
 | p :: l, bs, hi, h => by
  unfold inVl at hi
  split at hi
  · rename_i hp
    obtain ⟨⟨v, h1, h2⟩, h3⟩ := h
    rw [(cS (getVl (by simpa using hp))).1 h2] at h1
    obtain ⟨q1, q2⟩ := items_sl hi h3
    exact ⟨⟨h1, q1⟩, q2⟩
  · cases hi
section
variable {nt : Nat} {vl : List Value} {w : World} {a : Act} {T : List cW} {Q : Exit → Act → World → Prop}
theorem cZ (pre post : List (Nat × Nat)) {n : Nat} {c : Code} {x : Xt} (h1 : ∀ v ∈ vl, v.oneCell' = true) (hT : ∀ t ∈ T, t.Valid (CV nt vl w)) (hs : kl nt vl pre a)
 (h : segB (CV nt vl w).toStat T n c (cT pre) x (cT post) = true) (hi : inVl pre vl.length = true) (hi' : inVl post vl.length = true)
 (hQ : ∀ a' w', kl nt vl post a' → Below w.heap.size w w' → Q x.to a' w') : c.wp Tryz.prog Q a w := by
 refine cE (CV_ok h1) hT h (hs.at hi) (fun a' w' hA => hQ a' w' ⟨hA.defers, hA.size, ?_⟩ hA.below)
 have := hA.items
 rw [← List.append_nil (cT post)] at this
 exact (items_sl hi' this).1
theorem seg_vd (pre post : List (Nat × Nat)) {t : Nat} {n : Nat} {c : Code} {x : Xt} {ds : List Nat} {csz : List Nat} {numc : List Bool} {cl : List Cl} (hC : (mkC csz numc [] nt cl w).Ok) (hT : ∀ t ∈ T, t.Valid (mkC csz numc [] nt cl w)) (hs : kl nt vl pre a) (d : Nat)
 (hcl : ∀ i < vl.length, cl[i]? = some (clW (vl.getD i undef))) (hd : cl[d]? = some (ko ds))
 (h : segB (mkC csz numc [] nt cl w).toStat T n c (cT pre) x (.val t (op d) :: cT post) = true) (hi : inVl pre vl.length = true) (hi' : inVl post vl.length = true)
 (hQ : ∀ a' w' v, a'.tmps[t]? = some v → Dg w' v ds → kl nt vl post a' → Below w.heap.size w w' → Q x.to a' w') (hL : cl.flatMap (·.L) = [] := by rfl) : c.wp Tryz.prog Q a w := by
 have hA : At (mkC csz numc [] nt cl w) (cT pre) a w := by
  refine ⟨Below.refl _ _, hs.defers, hs.size, ?_, fun k hk => noL hL hk⟩
  have key : ∀ (is : List (Nat × Nat)) bs, Sl a vl is → inVl is vl.length = true → jd (mkC csz numc [] nt cl w) a w (cT is) bs := by
   intro is
   induction is with
   | nil => intro _ _ _; trivial
   | cons p l ih =>
    intro bs h hi
    unfold inVl at hi
    split at hi
    · rename_i hp
      exact ⟨⟨_, h.1, (cS (hcl _ (by simpa using hp))).2 rfl⟩, ih bs h.2 hi⟩
    · cases hi
  exact key pre [] hs.sl hi
 refine cE hC hT h hA (fun a' w' hA => ?_)
 obtain ⟨⟨v, h1, h2⟩, h3⟩ := hA.items
 refine hQ a' w' v h1 ((op_isD hd).1 h2) ⟨hA.defers, hA.size, ?_⟩ hA.below
 have key : ∀ (is : List (Nat × Nat)) bs, inVl is vl.length = true → jd (mkC csz numc [] nt cl w) a' w' (cT is) bs → Sl a' vl is := by
  intro is
  induction is with
  | nil => intro _ _ _; trivial
  | cons p l ih =>
   intro bs hi h
   unfold inVl at hi
   split at hi
   · rename_i hp
     obtain ⟨⟨v, h1, h2⟩, h3⟩ := h
     rw [(cS (hcl _ (by simpa using hp))).1 h2] at h1
     exact ⟨h1, ih bs hi h3⟩
   · cases hi
 exact key post [] hi' h3
theorem seg_vf (pre post : List (Nat × Nat)) {t : Nat} {n : Nat} {c : Code} {x : Xt} {ds : List Nat} {B : Nat} {csz : List Nat} {numc : List Bool} {cl : List Cl} (hC : (mkC csz numc [] nt cl w).Ok) (hT : ∀ t ∈ T, t.Valid (mkC csz numc [] nt cl w)) (hs : kl nt vl pre a) (d : Nat)
 (hcl : ∀ i < vl.length, cl[i]? = some (clW (vl.getD i undef))) (hd : cl[d]? = some (clF B ds))
 (h : segB (mkC csz numc [] nt cl w).toStat T n c (cT pre) x (.val t (op d) :: cT post) = true) (hi : inVl pre vl.length = true) (hi' : inVl post vl.length = true)
 (hQ : ∀ a' w' v, a'.tmps[t]? = some v → Dg w' v ds → (∀ k, v.ownBlock = some k → B ≤ k) → kl nt vl post a' → Below w.heap.size w w' → Q x.to a' w') (hL : cl.flatMap (·.L) = [] := by rfl) : c.wp Tryz.prog Q a w := by
 have hA : At (mkC csz numc [] nt cl w) (cT pre) a w := by
  refine ⟨Below.refl _ _, hs.defers, hs.size, ?_, fun k hk => noL hL hk⟩
  have key : ∀ (is : List (Nat × Nat)) bs, Sl a vl is → inVl is vl.length = true → jd (mkC csz numc [] nt cl w) a w (cT is) bs := by
   intro is
   induction is with
   | nil => intro _ _ _; trivial
   | cons p l ih =>
    intro bs h hi
    unfold inVl at hi
    split at hi
    · rename_i hp
      exact ⟨⟨_, h.1, (cS (hcl _ (by simpa using hp))).2 rfl⟩, ih bs h.2 hi⟩
    · cases hi
  exact key pre [] hs.sl hi
 refine cE hC hT h hA (fun a' w' hA => ?_)
 obtain ⟨⟨v, h1, h2⟩, h3⟩ := hA.items
 refine hQ a' w' v h1 ((op_isF hd).1 h2).1 ((op_isF hd).1 h2).2 ⟨hA.defers, hA.size, ?_⟩ hA.below
 have key : ∀ (is : List (Nat × Nat)) bs, inVl is vl.length = true → jd (mkC csz numc [] nt cl w) a' w' (cT is) bs → Sl a' vl is := by
  intro is
  induction is with
  | nil => intro _ _ _; trivial
  | cons p l ih =>
   intro bs hi h
   unfold inVl at hi
   split at hi
   · rename_i hp
     obtain ⟨⟨v, h1, h2⟩, h3⟩ := h
     rw [(cS (hcl _ (by simpa using hp))).1 h2] at h1
     exact ⟨h1, ih bs hi h3⟩
   · cases hi
 exact key post [] hi' h3
theorem pfW {csz : List Nat} {numc : List Bool} {okT : List Nat} {cl : List Cl} {w0 : World} {c B : Nat} {x : Value} {ds : List Nat} (h : cl[c]? = some (clW x)) (hx : Dg w0 x ds) (hB : ∀ k, x.ownBlock = some k → B ≤ k) : PF csz numc okT nt cl w0 (op c) B ds := fun w v hb h1 => by
 rw [(cS h).1 h1]
 exact ⟨hx.below hb (Nat.le_refl _), hB⟩
def apartFrom : List (Nat × Nat) → Nat → Bool
 | [], _ => true
 | p :: l, d => match Nat.beq p.1 d with
  | true => false
  | false => apartFrom l d
theorem Sl.put {is : List (Nat × Nat)} {d : Nat} {v : Value} : apartFrom is d = true → Sl a vl is → Sl (a.put (some d) v) vl is := by
 induction is with
 | nil => intro _ _; trivial
 | cons p l ih =>
  intro h hs
  unfold apartFrom at h
  split at h
  · cases h
  · rename_i hp
    refine ⟨(put_ne (fun e => ?_)).trans hs.1, ih h hs.2⟩
    rw [e] at hp
    simp at hp
theorem push_v (pre post : List (Nat × Nat)) {id : Nat} {l : List Oper} (i : Nat) {oa os : Oper} {s x d t B cd : Nat} {z : Value} {ds : List Nat} {dg : Nat} (h1 : ∀ v ∈ vl, v.oneCell' = true) (hT : ∀ t ∈ T, t.Valid (CV nt vl w)) (hs : kl nt vl pre a) (cz : Nat)
 (h : opsB (CV nt vl w).toStat T (l.take i) (cT pre) (cT ((s, cz) :: post) ++ [.own x 3 1 [.cls cd 1]]) = true) (hl : l.drop i = [oa, os]) (hg : oa.guard = none) (hg' : os.guard = none)
 (ho : oa.op = .call { callee := .builtin .append, args := #[.tmp s, .tmp x], argTypes := #[31, 31] }) (hd : oa.dst = some d) (ho' : os.op = .assign (.tmp d)) (hd' : os.dst = some t)
 (hcz : vl[cz]? = some z) (hcd : vl[cd]? = some (ii (dg : Int))) (hlim : Nat.blt d nt = true) (hlim' : Nat.blt t nt = true) (hap : apartFrom post d = true) (hap' : apartFrom post t = true)
 (hi : inVl pre vl.length = true) (hi' : inVl ((s, cz) :: post) vl.length = true) (hown : Own B w z ds) (hB : B ≤ w.heap.size) (hlen : ds.length < 1000000000)
 (hQ : ∀ z' a' w', a'.tmps[t]? = some z' → Own B w' z' (ds ++ [dg]) → kl nt vl post a' → Below B w w' → Q .normal a' w') : (Code.region id l.toArray false).wp Tryz.prog Q a w := by
 refine wp_region_lit ?_
 rw [show wpList Tryz.prog l.toArray Q l a w = wpList Tryz.prog l.toArray Q (l.take i ++ l.drop i) a w by rw [List.take_append_drop], hl]
 refine ops_is (CV_ok h1) hT h (hs.at hi) (fun a2 w2 hA => ?_)
 obtain ⟨⟨sz, hsl⟩, ⟨k, vs, s11, hk, hkc, hvs⟩, _⟩ := items_sl hi' hA.items
 have hvs : vs = [ii (dg : Int)] := by
  obtain ⟨xs, ys, rfl, ⟨f, hE, rfl⟩, hy⟩ := hvs
  rw [show ys = [] from hy]
  have hc := getVl (vl := vl) (c := cd) (List.getElem?_eq_some_iff.1 hcd).1
  rw [show vl.getD cd undef = ii (dg : Int) by rw [List.getD, hcd]; rfl] at hc
  simp only [CV, mkC, hc] at hE
  have hE : f 0 = ii (dg : Int) := hE
  simp [List.range_succ, hE]
 subst hvs
 have sz : a2.tmps[s]? = some z := by
  rw [sz, List.getD, hcz]; rfl
 have hB2 : B ≤ w2.heap.size := Nat.le_trans hB hA.below.size
 refine wp_add hg ho sz s11 hkc (hown.below hA.below) hB2 hlen (fun z' w3 hown' hgr => ?_)
 rw [hd]
 refine wpList_plain hg' (fun K hK => ?_)
 have hsz : d < a2.tmps.size := by
  have : d < nt := by simpa using hlim
  rw [hA.size]; exact this
 have hst : t < (a2.put (some d) z').tmps.size := by
  have : t < nt := by simpa using hlim'
  rw [put_size, hA.size]; exact this
 have hev : (a2.put (some d) z').eval (.tmp d) = z' := by simp [Act.eval, Array.getD_eq_getD_getElem?, put_self hsz]
 have hw : (execOp (a2.put (some d) z').eval os).run (CV nt vl w).P w3 = .ok (.value z') w3 := by simp only [execOp, ho', hev]; rfl
 refine jc hw (hK _ _ ?_)
 rw [hd']
 have hlt := (hown.below hA.below).lt
 refine hQ z' _ w3 (put_self hst) hown' ⟨(put_defers _ _ _).trans ((put_defers _ _ _).trans hA.defers), (put_size _ _ _).trans ((put_size _ _ _).trans hA.size), Sl.put hap' (Sl.put hap hsl)⟩ ?_
 exact (hA.below.mono hB).trans ⟨hgr.os, hgr.tape, hgr.output, hgr.size, fun i hi => hgr.block i (by omega) (fun e => by have := hlt i e.symm; omega)⟩
end
def Ll (a : Act) : List (Nat × Value) → Prop
 | [] => True
 | p :: l => a.tmps[p.1]? = some p.2 ∧ Ll a l
def litsOf : List (Nat × Value) → List Item
 | [] => []
 | p :: l => .val p.1 (vp p.2) :: litsOf l
theorem lits_ll {C : Ctx} {a : Act} {w : World} : ∀ {l : List (Nat × Value)} {bs : List Nat}, jd C a w (litsOf l) bs → Ll a l
 | [], _, _ => trivial
 | p :: l, bs, ⟨⟨v, h1, h2⟩, h3⟩ => by
  rw [kp.1 h2] at h1
  exact ⟨h1, lits_ll h3⟩
theorem seg_vl {nt : Nat} {vl : List Value} {w : World} {a : Act} {T : List cW} {Q : Exit → Act → World → Prop} (pre post : List (Nat × Nat)) (lits : List (Nat × Value)) {n : Nat} {c : Code} {x : Xt} (h1 : ∀ v ∈ vl, v.oneCell' = true) (hT : ∀ t ∈ T, t.Valid (CV nt vl w)) (hs : kl nt vl pre a)
 (h : segB (CV nt vl w).toStat T n c (cT pre) x (cT post ++ litsOf lits) = true) (hi : inVl pre vl.length = true) (hi' : inVl post vl.length = true)
 (hQ : ∀ a' w', kl nt vl post a' → Ll a' lits → Below w.heap.size w w' → Q x.to a' w') : c.wp Tryz.prog Q a w := by
 refine cE (CV_ok h1) hT h (hs.at hi) (fun a' w' hA => ?_)
 obtain ⟨q1, q2⟩ := items_sl hi' hA.items
 exact hQ a' w' ⟨hA.defers, hA.size, q1⟩ (lits_ll q2) hA.below
theorem calls_v2 {nt : Nat} {w : World} {f : FuncId} {fn : Func} {c : Code} (hf : Tryz.prog.funcs[f]? = some fn) (hb : fn.body = some c) (hnt : fn.ntmps = nt) (hlen : Nat.ble 2 nt = true) (x y : Value) {Q : Ending → World → Prop}
 (h : ∀ a, kl nt [x, y] [(0, 0), (1, 1)] a → c.wp Tryz.prog (bodyPost Tryz.prog fn Q) a w) : Calls Tryz.prog f #[x, y] w Q :=
 calls_at (C := CV nt [x, y] w) (args := [op 0, op 1]) hf hb hnt (Nat.le_of_ble_eq_true hlen) (vs := [x, y]) ⟨_, _, rfl, (cS rfl).2 rfl, _, _, rfl, (cS rfl).2 rfl, rfl⟩ (fun a hA => h a ⟨hA.defers, hA.size, (items_sl (is := [(0, 0), (1, 1)]) (rest := []) rfl hA.items).1⟩)
theorem ret_v {fn : Func} {t : Nat} {a : Act} {w : World} {v : Value} (hr : fn.results = #[.tmp t]) (hd : a.defers = []) (ht : a.tmps[t]? = some v) {Q : Ending → World → Prop} (h : Q (.returned v) w) : bodyPost Tryz.prog fn Q .ret a w := by
 refine ⟨hd, v, ?_, h⟩
 rw [results_eq, hr]
 have : a.tmps.getD t undef = v := by rw [Array.getD_eq_getD_getElem?, ht]; rfl
 simp [resF, this]
theorem empty_v {nt : Nat} {vl : List Value} {w : World} {a : Act} {Q : Exit → Act → World → Prop} (is : List (Nat × Nat)) {id : Nat} {o1 o2 : Oper} {d t : Nat} (hs : kl nt vl is a) (hg : o1.guard = none) (hg' : o2.guard = none) (ho : o1.op = .buildSlice 31 0 #[]) (hd : o1.dst = some d) (ho' : o2.op = .assign (.tmp d)) (hd' : o2.dst = some t)
 (hlim : Nat.blt d nt = true) (hlim' : Nat.blt t nt = true) (hap : apartFrom is d = true) (hap' : apartFrom is t = true) {B : Nat} (hB : B ≤ w.heap.size)
 (hQ : ∀ z a' w', a'.tmps[t]? = some z → Own B w' z [] → kl nt vl is a' → Below w.heap.size w w' → Q .normal a' w') : (Code.region id [o1, o2].toArray false).wp Tryz.prog Q a w := by
 refine wp_region_lit (wp_empty hg ho ?_)
 rw [hd]
 refine wpList_plain hg' (fun K hK => ?_)
 have hsz : d < a.tmps.size := by
  have : d < nt := by simpa using hlim
  rw [hs.size]; exact this
 have hst : ∀ v, t < (a.put (some d) v).tmps.size := fun v => by
  have : t < nt := by simpa using hlim'
  rw [put_size, hs.size]; exact this
 have hev : ∀ z', (a.put (some d) z').eval (.tmp d) = z' := fun z' => by simp [Act.eval, Array.getD_eq_getD_getElem?, put_self hsz]
 have hw : (execOp (a.put (some d) (.slice (some ⟨w.heap.size, 0, none⟩) 0 0)).eval o2).run Tryz.prog (w.alloc (.cells #[] 3)) = .ok (.value (.slice (some ⟨w.heap.size, 0, none⟩) 0 0)) (w.alloc (.cells #[] 3)) := by simp only [execOp, ho', hev]; rfl
 unfold Oper.wp
 rw [hw]
 refine hK _ _ ?_
 rw [hd']
 refine hQ _ _ _ (put_self (hst _)) (Own.fresh (heap_alloc_new w _) hB) ⟨(put_defers _ _ _).trans ((put_defers _ _ _).trans hs.defers), (put_size _ _ _).trans ((put_size _ _ _).trans hs.size), Sl.put hap' (Sl.put hap hs.sl)⟩ ((Below.refl _ _).alloc (Nat.le_refl _) _)
theorem strip_cons (d : Nat) (l : List Nat) : jH (d :: l) = if d = 0 ∧ jH l = [] then [] else d :: jH l := by
 have key : ∀ (l : List Nat), (l ++ [d]).dropWhile (fun d => d == 0) = if l.dropWhile (fun d => d == 0) = [] then [d].dropWhile (fun d => d == 0) else l.dropWhile (fun d => d == 0) ++ [d] := by
  intro l
  induction l with
  | nil => simp
  | cons e l ih =>
   simp only [List.cons_append, List.dropWhile_cons]
   split
   · rw [ih]; simp [List.dropWhile_cons]
   · simp
 unfold jH
 rw [List.reverse_cons, key]
 by_cases h : l.reverse.dropWhile (fun d => d == 0) = []
 · by_cases hd : d = 0 <;> simp [h, hd]
 · simp [h]
theorem digs_nat : ∀ {l : List Nat}, (∀ d ∈ l, d < 10000) → digs (cG l) = jH l
 | [], _ => by rw [strip_nil]; exact digs_zero
 | d :: l, h => by
  have ih := digs_nat (l := l) (fun x hx => h x (List.mem_cons_of_mem _ hx))
  have hd := h d (by simp)
  rw [strip_cons, ← ih]
  show digs (d + 10000 * cG l) = _
  by_cases h0 : d + 10000 * cG l = 0
  · rw [h0, digs_zero, if_pos ⟨by omega, by rw [show cG l = 0 by omega, digs_zero]⟩]
  · rw [digs_pos h0, show (d + 10000 * cG l) % 10000 = d by omega, show (d + 10000 * cG l) / 10000 = cG l by omega, if_neg]
    rintro ⟨h1, h2⟩
    apply h0
    have : cG l = 0 := by
     cases hn : cG l with
     | zero => rfl
     | succ m => rw [digs_pos (by omega)] at h2; cases h2
    omega
theorem nat_snoc : ∀ (l : List Nat) (d : Nat), cG (l ++ [d]) = cG l + 10000 ^ l.length * d
 | [], d => by simp [cG]
 | e :: l, d => by
  show e + 10000 * cG (l ++ [d]) = e + 10000 * cG l + 10000 ^ (l.length + 1) * d
  rw [nat_snoc l d, Nat.pow_succ, Nat.mul_add, Nat.add_assoc, Nat.mul_comm (10000 ^ l.length) 10000, Nat.mul_assoc]
theorem nat_bound : ∀ {l : List Nat}, (∀ d ∈ l, d < 10000) → cG l < 10000 ^ l.length
 | [], _ => by simp [cG]
 | d :: l, h => by
  have := nat_bound (l := l) (fun x hx => h x (List.mem_cons_of_mem _ hx))
  have hd := h d (by simp)
  show d + 10000 * cG l < 10000 ^ (l.length + 1)
  rw [Nat.pow_succ]
  omega
theorem nat_drop (ds : List Nat) (i : Nat) : cG (ds.drop i) = ds.getD i 0 + 10000 * cG (ds.drop (i + 1)) := by
 rw [nat_head (ds.drop i)]
 congr 1
 · simp [List.getD, List.getElem?_drop]
 · rw [List.tail_drop]
theorem kf {ds : List Nat} {i : Nat} (h : ds.length ≤ i) : cG (ds.drop i) = 0 := by
 rw [List.drop_eq_nil_of_le h]; rfl
def jI : Value → Nat → Value
 | .slice (some ⟨b, off, none⟩) _ _, n => .pointer (some ⟨b, off + n, none⟩)
 | _, _ => .pointer none
theorem jy (v : Value) (n : Nat) : (jI v n).oneCell' = true := by unfold jI; split <;> rfl
section
variable {csz : List Nat} {numc : List Bool} {okT : List Nat} {nt : Nat} {cl : List Cl} {w0 : World} {p1 p2 : jQ} {res : RPat} {ds : List Nat} {n : Nat} {x : Value}
theorem e_ixW {t : Nat} (ht : Tryz.prog.underlying t = some (.slice (Tryz.prog.elem t))) (he : Tryz.prog.elem t = 3) (h1 : PV csz numc okT nt cl w0 p1 x) (hx : Dg w0 x ds) (h2 : PV csz numc okT nt cl w0 p2 (ii (n : Int))) (hn : n < ds.length) (h3 : RV csz numc okT nt cl w0 res (jI x n)) : V csz numc okT nt cl w0 (.ix t) [p1, p2] res := by
 intro w ρ oo xs ho hb hvs
 obtain ⟨a, b, hop, rfl⟩ := hd_ix ho
 obtain ⟨v1, _, e1, h4, v2, _, e2, h5, e3⟩ := hvs
 obtain rfl := h1 _ _ h4
 obtain rfl := h2 _ _ h5
 subst e2
 simp only [List.map_cons, List.map_nil, List.cons.injEq] at e1
 obtain ⟨ea, eb, _⟩ := e1
 obtain ⟨ao, cap, rfl, h6, h7, h8⟩ := hx
 obtain ⟨k, off, rfl, hcs, hr⟩ := h8 (by omega)
 refine ⟨_, w, ?_, h3 w, Below.refl _ _⟩
 show (execOp ρ oo).run Tryz.prog w = _
 have hs : (sizeOf (Tryz.prog.elem t)).run Tryz.prog w = .ok 1 w := by rw [he]; exact size_int w
 simp only [execOp, hop, ea, eb, Sem.run_bind, run_indexAt_slice _ _ _ _ _ _ _ ht]
 rw [if_pos (by omega)]
 simp [hs, Result.andThen, Addr.add, jI]
theorem e_ldW (h1 : PV csz numc okT nt cl w0 p1 (jI x n)) (hx : Dg w0 x ds) (hn : n < ds.length) (h3 : RV csz numc okT nt cl w0 res (ii ((ds.getD n 0 : Nat) : Int))) : V csz numc okT nt cl w0 (.ld 3) [p1] res := by
 intro w ρ oo xs ho hb hvs
 obtain ⟨a, hop, rfl⟩ := hd_ld ho
 obtain ⟨v1, _, e1, h4, e2⟩ := hvs
 obtain rfl := h1 _ _ h4
 subst e2
 simp only [List.map_cons, List.map_nil, List.cons.injEq] at e1
 obtain ⟨ea, _⟩ := e1
 obtain ⟨ao, cap, rfl, h6, h7, h8⟩ := hx.below hb (Nat.le_refl _)
 obtain ⟨k, off, rfl, hcs, hr⟩ := h8 (by omega)
 refine ⟨_, w, ?_, h3 w, Below.refl _ _⟩
 show (execOp ρ oo).run Tryz.prog w = _
 simp only [execOp, hop, ea, jI, Instr.loadAt, Instr.sureAddr, Sem.run_bind, Sem.run_pure, Result.andThen_ok, loadVar, agg_int]
 simp [hr n hn]
end
end Sym
end Go.Proofs.YtccabfblgjcboaaGreatDoor
