/- Package exact: RefP RefL RefSpans. -/
import Derived.Test.YtccabfblgjcboaaGreatDoorF28
import Derived.Test.YtccabfblgjcboaaGreatDoorF29
set_option linter.all false

namespace Go.Proofs.YtccabfblgjcboaaGreatDoor
open Go Go.RowKit Go.Proofs Lim
namespace Sym
def RSp (w : World) (v : Value) (lo hi : Rat) : Prop := ∃ a b c d e f, v = .agg #[a, b, c, d, e, f] ∧ RQ w (.agg #[a, b, c]) lo ∧ RQ w (.agg #[d, e, f]) hi
def rsp (c d : Nat) : jQ := .agg [.cls c 3, .cls d 3]
def Lst (w : World) (v : Value) (rs : List Rat) : Prop := ∃ b cap arr fr, v = .slice (some ⟨b, 0, none⟩) rs.length cap ∧ w.heap[b]? = some (.cells arr 33 fr) ∧ ∀ i r, rs[i]? = some r → ∃ x y z, arr[3 * i]? = some x ∧ arr[3 * i + 1]? = some y ∧ arr[3 * i + 2]? = some z ∧ RQ w (.agg #[x, y, z]) r
theorem Lst.below {w w' : World} {v : Value} {rs : List Rat} {B : Nat} (h : Lst w v rs) (hb : Below B w w') (hB : w.heap.size ≤ B) : Lst w' v rs := by
 obtain ⟨b, cap, arr, fr, hv, hc, h1⟩ := h
 have hlt : b < B := Nat.lt_of_lt_of_le (Array.getElem?_eq_some_iff.1 hc).1 hB
 refine ⟨b, cap, arr, fr, hv, (hb.block b hlt).trans hc, fun i r hi => ?_⟩
 obtain ⟨x, y, z, e1, e2, e3, h2⟩ := h1 i r hi
 exact ⟨x, y, z, e1, e2, e3, h2.below hb hB⟩
def ptrL : Value → Nat → Value
 | .slice (some ⟨b, off, none⟩) _ _, i => .pointer (some ⟨b, off + i * 3, none⟩)
 | _, _ => .pointer none
theorem ptrL_one (v : Value) (n : Nat) : (ptrL v n).oneCell' = true := by unfold ptrL; split <;> rfl
theorem Lst.one {w : World} {v : Value} {rs : List Rat} (h : Lst w v rs) : v.oneCell' = true := by
 obtain ⟨b, cap, arr, fr, rfl, _⟩ := h
 rfl
theorem und_rats : Tryz.prog.underlying 92 = some (.slice (Tryz.prog.elem 92)) := by kernel_rfl
theorem elem_rats : Tryz.prog.elem 92 = 33 := by kernel_rfl
theorem size_rat (w : World) : (sizeOf 33).run Tryz.prog w = .ok 3 w := ev_run (by kernel_rfl) w
section
variable {csz : List Nat} {numc : List Bool} {okT : List Nat} {nt : Nat} {cl : List Cl} {w0 : World} {w : World} {v z : Value} {p1 p2 p3 p4 : jQ} {res : RPat} {c d c1 c2 c3 c4 c5 c6 : Nat} {r s t r1 r2 r3 r4 : Rat} {k k1 k2 k3 k4 k5 k6 : Nat} {rs : List Rat}
theorem ju (h : cl[c]? = some (cN r k)) (h' : cl[d]? = some (cN s k1)) : (rsp c d).is (mkC csz numc okT nt cl w0) w v ↔ RSp w v r s ∧ cB r k ∧ cB s k1 := by
 constructor
 · rintro ⟨vs, ⟨xs, ys, rfl, ⟨f, hE, rfl⟩, ⟨xs', ys', rfl, ⟨f', hE', rfl⟩, hy⟩⟩, rfl⟩
   rw [show ys' = [] from hy]
   simp only [mkC, h] at hE
   simp only [mkC, h'] at hE'
   exact ⟨⟨f 0, f 1, f 2, f' 0, f' 1, f' 2, rfl, hE.1, hE'.1⟩, hE.2, hE'.2⟩
 · rintro ⟨⟨a, b, c0, d0, e, f, rfl, h1, h2⟩, z1, z2⟩
   refine ⟨[a, b, c0, d0, e, f], ⟨[a, b, c0], [d0, e, f], rfl, ⟨fun j => [a, b, c0].getD j undef, ?_, rfl⟩, ⟨[d0, e, f], [], rfl, ⟨fun j => [d0, e, f].getD j undef, ?_, rfl⟩, rfl⟩⟩, rfl⟩
   · simp only [mkC, h]; exact ⟨h1, z1⟩
   · simp only [mkC, h']; exact ⟨h2, z2⟩
def PRS (csz : List Nat) (numc : List Bool) (okT : List Nat) (nt : Nat) (cl : List Cl) (w0 : World) (p : jQ) (r : Rat) (k : Nat) (s : Rat) (j : Nat) : Prop := ∀ w v, p.is (mkC csz numc okT nt cl w0) w v → RSp w v r s ∧ cB r k ∧ cB s j
theorem prs (h : cl[c]? = some (cN r k)) (h' : cl[d]? = some (cN s k1)) : PRS csz numc okT nt cl w0 (rsp c d) r k s k1 := fun _ _ h1 => (ju h h').1 h1
theorem e_rminm (h1 : PR csz numc okT nt cl w0 p1 r k1) (h2 : PR csz numc okT nt cl w0 p2 s k2) (h3 : cl[c3]? = some (cN (jZ r s) k3)) (hk1 : fitr k1 k3 = true) (hk2 : fitr k2 k3 = true) (hk' : fitr k3 5000 = true) : V csz numc okT nt cl w0 (.call 106) [p1, p2] (.val (rq c3)) := by
 have hk1 := jr hk1
 have hk2 := jr hk2
 have hk' := jr hk'
 exact ent_rrr (enters_of Tryz.func106 (by kernel_rfl) rfl) h1 h2 h3 (fun z1 z2 => minQ_siz (z1.le hk1.1) (z2.le hk2.1)) (fun W v1 v2 q1 z1 q2 z2 => rmin_q v1 v2 r s k3 W q1 q2 (z1.le hk1.1) (z2.le hk2.1) hk'.1)
theorem e_rmaxm (h1 : PR csz numc okT nt cl w0 p1 r k1) (h2 : PR csz numc okT nt cl w0 p2 s k2) (h3 : cl[c3]? = some (cN (ka r s) k3)) (hk1 : fitr k1 k3 = true) (hk2 : fitr k2 k3 = true) (hk' : fitr k3 5000 = true) : V csz numc okT nt cl w0 (.call 107) [p1, p2] (.val (rq c3)) := by
 have hk1 := jr hk1
 have hk2 := jr hk2
 have hk' := jr hk'
 exact ent_rrr (enters_of Tryz.func107 (by kernel_rfl) rfl) h1 h2 h3 (fun z1 z2 => maxQ_siz (z1.le hk1.1) (z2.le hk2.1)) (fun W v1 v2 q1 z1 q2 z2 => rmax_q v1 v2 r s k3 W q1 q2 (z1.le hk1.1) (z2.le hk2.1) hk'.1)
theorem e_lenL (h1 : PV csz numc okT nt cl w0 p1 v) (hv : Lst w0 v rs) (h3 : RV csz numc okT nt cl w0 res (ii (rs.length : Int))) : V csz numc okT nt cl w0 (.blt .len [92] 3) [p1] res := by
 intro w ρ oo xs ho hb hvs
 obtain ⟨c, hop, hc, hat, hty, rfl⟩ := hd_blt ho
 obtain ⟨v1, _, e1, h4, e2⟩ := hvs
 subst e2
 obtain rfl := h1 _ _ h4
 obtain ⟨b, cap, arr, fr, rfl, _⟩ := hv
 refine ⟨_, w, ?_, h3 w, Below.refl _ _⟩
 have he : c.args.map ρ = #[Value.slice (some ⟨b, 0, none⟩) rs.length cap] := by
  apply Array.ext'
  simpa using e1
 show (execOp ρ oo).run Tryz.prog w = _
 simp only [execOp, hop, resolve, hc, he, Sem.run_bind, Sem.run_pure, Result.andThen_ok, invoke, builtin, hat, hty]
 simp [Sem.run_bind, run_len_slice _ _ _ _ _ _ und_rats, Result.andThen, goInt]
theorem e_ixL {n : Nat} (h1 : PV csz numc okT nt cl w0 p1 v) (hv : Lst w0 v rs) (h2 : PV csz numc okT nt cl w0 p2 (ii (n : Int))) (hn : n < rs.length) (h3 : RV csz numc okT nt cl w0 res (ptrL v n)) : V csz numc okT nt cl w0 (.ix 92) [p1, p2] res := by
 intro w ρ oo xs ho hb hvs
 obtain ⟨a, b, hop, rfl⟩ := hd_ix ho
 obtain ⟨v1, _, e1, h4, v2, _, e2, h5, e3⟩ := hvs
 obtain rfl := h1 _ _ h4
 obtain rfl := h2 _ _ h5
 subst e2
 simp only [List.map_cons, List.map_nil, List.cons.injEq] at e1
 obtain ⟨ea, eb, _⟩ := e1
 obtain ⟨k, cap, arr, fr, rfl, _⟩ := hv
 refine ⟨_, w, ?_, h3 w, Below.refl _ _⟩
 show (execOp ρ oo).run Tryz.prog w = _
 have hs : (sizeOf (Tryz.prog.elem 92)).run Tryz.prog w = .ok 3 w := by rw [elem_rats]; exact size_rat w
 simp only [execOp, hop, ea, eb, Sem.run_bind, run_indexAt_slice _ _ _ _ _ _ _ und_rats]
 rw [if_pos (by omega)]
 simp [hs, Result.andThen, Addr.add, ptrL]
 intro h
 exact h.symm
theorem e_ldL {n : Nat} (h1 : PV csz numc okT nt cl w0 p1 (ptrL v n)) (hv : Lst w0 v rs) (hr : rs[n]? = some r) (z : cB r k) (h3 : cl[c]? = some (cN r k)) : V csz numc okT nt cl w0 (.ld 33) [p1] (.val (rq c)) := by
 intro w ρ oo xs ho hb hvs
 obtain ⟨a, hop, rfl⟩ := hd_ld ho
 obtain ⟨v1, _, e1, h4, e2⟩ := hvs
 obtain rfl := h1 _ _ h4
 subst e2
 simp only [List.map_cons, List.map_nil, List.cons.injEq] at e1
 obtain ⟨ea, _⟩ := e1
 obtain ⟨b, cap, arr, fr, rfl, hc, h5⟩ := hv.below hb (Nat.le_refl _)
 obtain ⟨x, y, u, g1, g2, g3, g4⟩ := h5 n r hr
 refine ⟨.agg #[x, y, u], w, ?_, (ji h3).2 ⟨g4, z⟩, Below.refl _ _⟩
 have hp : ptrL (.slice (some ⟨b, 0, none⟩) rs.length cap) n = .pointer (some ⟨b, n * 3, none⟩) := by simp [ptrL]
 rw [hp] at ea
 obtain ⟨inf, hinf, hsz⟩ := Option.map_eq_some_iff.1 info_ratT
 have hl := run_loadCells_list (P := Tryz.prog) (w := w) ⟨b, n * 3, none⟩ [x, y, u] (fun j v hj => by
  rw [jo]
  have hj3 : j < 3 := (List.getElem?_eq_some_iff.1 hj).1
  simp only [World.cell?, hc]
  match j, hj3 with
  | 0, _ => rw [Nat.add_zero, Nat.mul_comm, g1]; simpa using hj
  | 1, _ => rw [Nat.mul_comm, g2]; simpa using hj
  | 2, _ => rw [Nat.mul_comm, g3]; simpa using hj)
 have hl : (loadCells ⟨b, n * 3, none⟩ inf.size).run Tryz.prog w = .ok #[x, y, u] w := by rw [hsz]; exact hl
 have hlv : (loadVar 33 ⟨b, n * 3, none⟩).run Tryz.prog w = .ok (.agg #[x, y, u]) w := by
  obtain ⟨d, hd, hag⟩ : ∃ d, Tryz.prog.underlying 33 = some d ∧ isAggD d = true := ⟨_, und_ratT, by kernel_rfl⟩
  simp [loadVar, jW hd, hag, jP hinf, hl]
 show (execOp ρ oo).run Tryz.prog w = _
 simp only [execOp, hop, ea, Instr.loadAt, Instr.sureAddr, Sem.run_bind, Sem.run_pure, Result.andThen_ok, hlv]
end
theorem und_spanT : Tryz.prog.underlying 68 = some (match Tryz.prog.underlying 68 with | some d => d | none => .bool) := by kernel_rfl
def lowR (r : Rat) (rs : List Rat) : Rat := rs.foldl jZ r
def jT (r : Rat) (rs : List Rat) : Rat := rs.foldl ka r
def zsp : List Grp := [.lit (.bool false), .lit (.slice none 0 0), .lit (.slice none 0 0), .lit (.bool false), .lit (.slice none 0 0), .lit (.slice none 0 0)]
def StE (w0 : World) (v : Value) (i : Nat) (lo hi : Rat) (a : Act) (w : World) : Prop := Below w0.heap.size w0 w ∧ a.defers = [] ∧ a.tmps.size = 34 ∧ ∃ b b2 x y z x' y' z', a.tmps[2]? = some (.pointer (some ⟨b2, 0, none⟩)) ∧ w0.heap.size ≤ b2 ∧ w.heap[b2]? = some (.cells #[.bool false, .slice none 0 0, .slice none 0 0, .bool false, .slice none 0 0, .slice none 0 0] 68 (0, 0)) ∧
 a.tmps[3]? = some (.pointer (some ⟨b, 0, none⟩)) ∧ w0.heap.size ≤ b ∧ b ≠ b2 ∧ w.heap[b]? = some (.cells #[x, y, z, x', y', z'] 68 (0, 0)) ∧ RQ w (.agg #[x, y, z]) lo ∧ RQ w (.agg #[x', y', z']) hi ∧ a.tmps[0]? = some v ∧ a.tmps[4]? = some (ii (i : Int))
section
variable {csz : List Nat} {numc : List Bool} {okT : List Nat} {cl : List Cl} {w0 : World} {w : World} {p0 p4 : jQ} {lo hi : Rat} {v : Value} {i : Nat} {a : Act} {c d k k' : Nat}
theorem at_ste (hc : cl[c]? = some (cN lo k)) (hd : cl[d]? = some (cN hi k')) (h : At (mkC csz numc okT 34 cl w0) [.box 2 68 zsp, .box 3 68 [.cls c 3, .cls d 3], .val 0 p0, .val 4 p4] a w) (h0 : ∀ w u, p0.is (mkC csz numc okT 34 cl w0) w u → u = v) (h4 : ∀ w v, p4.is (mkC csz numc okT 34 cl w0) w v → v = ii (i : Int)) : StE w0 v i lo hi a w := by
 obtain ⟨b2, vs2, q1, q2, _, q3, g2, b, vs, r1, r2, r3, r4, ⟨xs, ys, rfl, ⟨f, hE, rfl⟩, ⟨xs', ys', rfl, ⟨f', hE', rfl⟩, hy⟩⟩, ⟨v0, q4, q5⟩, ⟨v4, q6, q7⟩, _⟩ := h.items
 obtain ⟨_, _, rfl, rfl, _, _, rfl, rfl, _, _, rfl, rfl, _, _, rfl, rfl, _, _, rfl, rfl, _, _, rfl, rfl, rfl⟩ := g2
 rw [show ys' = [] from hy] at r4
 simp only [mkC, hc] at hE
 simp only [mkC, hd] at hE'
 rw [h0 _ _ q5] at q4
 rw [h4 _ _ q7] at q6
 exact ⟨h.below, h.defers, h.size, b, b2, f 0, f 1, f 2, f' 0, f' 1, f' 2, q1, q2.1, q3, r1, r2.1, by simpa using r3, r4, hE.1, hE'.1, q4, q6⟩
theorem ste_at (hc : cl[c]? = some (cN lo k)) (hd : cl[d]? = some (cN hi k')) (z1 : cB lo k) (z2 : cB hi k') (h : StE w0 v i lo hi a w) (h0 : p0.is (mkC csz numc okT 34 cl w0) w v) (h4 : p4.is (mkC csz numc okT 34 cl w0) w (ii (i : Int))) (hL : cl.flatMap (·.L) = [] := by rfl) : At (mkC csz numc okT 34 cl w0) [.box 2 68 zsp, .box 3 68 [.cls c 3, .cls d 3], .val 0 p0, .val 4 p4] a w := by
 obtain ⟨g1, g2, g3, b, b2, x, y, z, x', y', z', q1, q2, q3, r1, r2, r3, r4, r5, r6, q4, q5⟩ := h
 refine ⟨g1, g2, g3, ⟨b2, [.bool false, .slice none 0 0, .slice none 0 0, .bool false, .slice none 0 0, .slice none 0 0], q1, ⟨q2, fun hk => noL hL hk⟩, by simp, q3, ⟨_, _, rfl, rfl, _, _, rfl, rfl, _, _, rfl, rfl, _, _, rfl, rfl, _, _, rfl, rfl, _, _, rfl, rfl, rfl⟩, b, [x, y, z, x', y', z'], r1, ⟨r2, fun hk => noL hL hk⟩, by simpa using r3, r4, ⟨[x, y, z], [x', y', z'], rfl, ⟨fun j => [x, y, z].getD j undef, ?_, rfl⟩, ⟨[x', y', z'], [], rfl, ⟨fun j => [x', y', z'].getD j undef, ?_, rfl⟩, rfl⟩⟩, ⟨_, q4, h0⟩, ⟨_, q5, h4⟩, trivial⟩, fun k hk => noL hL hk⟩
 · simp only [mkC, hc]; exact ⟨r5, z1⟩
 · simp only [mkC, hd]; exact ⟨r6, z2⟩
end
theorem spanT : ∀ t ∈ [68], t ≠ 3 := by decide
abbrev cl_ends (v : Value) (rs : List Rat) (i k : Nat) (lo hi e : Rat) : List Cl := [clW v, jm (ii (i : Int)), jm (ii (rs.length : Int)), cN lo k, cN hi k, clW (ptrL v i), cN e k, cN (jZ lo e) k, cN (ka hi e) k, jm (ii ((i + 1 : Nat) : Int))]
noncomputable abbrev C_ends (v : Value) (rs : List Rat) (i k : Nat) (lo hi e : Rat) (w : World) : Ctx := mkC [1, 1, 1, 3, 3, 1, 3, 3, 3, 1] [false, true, true, true, true, false, true, true, true, true] [68] 34 (cl_ends v rs i k lo hi e) w
theorem ends_C {v : Value} (hv : v.oneCell' = true) (rs : List Rat) (i k : Nat) (lo hi e : Rat) (w : World) : (C_ends v rs i k lo hi e w).Ok := cL (cb (jf hv) (cb (cu _) (cb (cu _) (cb (co spanT _ _) (cb (co spanT _ _) (cb (jf (ptrL_one _ _)) (cb (co spanT _ _) (cb (co spanT _ _) (cb (co spanT _ _) (cb (cu _) cD)))))))))) rfl rfl
def t_ends0 : List cW := [⟨.ix 92, [op 0, vp (ii 0)], .val (op 5)⟩, ⟨.ld 33, [op 5], .val (rq 6)⟩]
def t_endsA (b : Bool) : List cW := [⟨.blt .len [92] 3, [op 0], .val (op 2)⟩, ⟨.bin .lss 3, [op 1, op 2], .val (vp (.bool b))⟩]
def t_endsB : List cW := [⟨.ix 92, [op 0, op 1], .val (op 5)⟩, ⟨.ld 33, [op 5], .val (rq 6)⟩, ⟨.call 106, [rq 3, rq 6], .val (rq 7)⟩, ⟨.call 107, [rq 4, rq 6], .val (rq 8)⟩, ⟨.bin .add 3, [op 1, vp (ii 1)], .val (op 9)⟩]
noncomputable def b_ends : Code := bodyOf Tryz.f104
noncomputable def l_ends : Code := cP (cP (cq (cI (cq (cq b_ends)))))
theorem ends_ok (v : Value) (r : Rat) (rs : List Rat) (k : Nat) (w : World) (hv : Lst w v (r :: rs)) (hz : ∀ x ∈ r :: rs, cB x k) (hk : k ≤ 5000) (hl : rs.length < 1000000) : Calls Tryz.prog 104 #[v] w (fun e w' => ∃ u, e = .returned u ∧ RSp w' u (lowR r rs) (jT r rs) ∧ Below w.heap.size w w') := by
 have h9 := hv.one
 have zr := hz r (by simp)
 have hfk : fitr k k = true := fitr_mk (Nat.le_refl _) (by omega)
 have hf5 : fitr k 5000 = true := fitr_mk hk (by decide)
 have hT0 : ∀ lo hi, ∀ t ∈ t_ends0, t.Valid (C_ends v (r :: rs) 0 k lo hi r w) := fun lo hi => ca (e_ixL (n := 0) (jj rfl) hv jR (by simp) (kn rfl)) (ca (e_ldL (n := 0) (jj rfl) hv rfl zr rfl) ce)
 refine calls_at (C := C_ends v (r :: rs) 0 k r r r w) (f := 104) (args := [op 0]) Tryz.func104 (c := .seq (cI b_ends) (.seq (cI (cq b_ends)) (.seq (.seq (cI (cI (cq (cq b_ends)))) (.block 0 (.loop l_ends))) (cq (cq (cq b_ends)))))) rfl rfl (Nat.le_of_ble_eq_true rfl) (vs := [v]) ⟨_, _, rfl, (cS rfl).2 rfl, rfl⟩ (fun a hA => ?_)
 refine wp_seq (cE (ends_C h9 _ _ _ _ _ _ _) (T := []) ce (x := .normal) (n := 30) (post := [.box 2 68 zsp, .val 0 (op 0)]) (by kernel_rfl) hA (fun a1 w1 hA => ?_))
 refine wp_seq (cE (ends_C h9 _ _ _ _ _ _ _) (hT0 r r) (x := .normal) (n := 30) (post := [.box 2 68 zsp, .box 3 68 [.cls 6 3, .cls 6 3], .val 0 (op 0)]) (by kernel_rfl) hA (fun a2 w2 hA => ?_))
 refine wp_seq (wp_seq (cE (ends_C h9 _ _ _ _ _ _ _) (T := []) ce (x := .normal) (n := 30) (post := [.box 2 68 zsp, .box 3 68 [.cls 6 3, .cls 6 3], .val 0 (op 0), .val 4 (vp (ii 1))]) (by kernel_rfl) hA (fun a3 w3 hA => ?_)))
 have hS := at_ste (i := 1) rfl rfl hA (fun w u hu => (cS rfl).1 hu) (fun w u hu => kp.1 hu)
 refine jz (Θ := Nat) (fun i a w1 => i ≤ rs.length ∧ StE w v (i + 1) (lowR r (rs.take i)) (jT r (rs.take i)) a w1) (fun i => rs.length - i) ?_ 0 ⟨Nat.zero_le _, hS⟩
 rintro i a w1 ⟨hi, hS⟩
 have zl : ∀ i, cB (lowR r (rs.take i)) k ∧ cB (jT r (rs.take i)) k := by
  have key : ∀ (l : List Rat) (x y : Rat), (∀ u ∈ l, cB u k) → cB x k → cB y k → cB (lowR x l) k ∧ cB (jT y l) k := by
   intro l
   induction l with
   | nil => exact fun x y _ h1 h2 => ⟨h1, h2⟩
   | cons u l ih => exact fun x y h h1 h2 => ih (jZ x u) (ka y u) (fun t ht => h t (by simp [ht])) (minQ_siz h1 (h u (by simp))) (maxQ_siz h2 (h u (by simp)))
  exact fun i => key (rs.take i) r r (fun u hu => hz u (by simp [List.mem_of_mem_take hu])) zr zr
 by_cases hend : i < rs.length
 · have he : (r :: rs)[i + 1]? = some rs[i] := by simp [hend]
   have hA := ste_at (csz := [1, 1, 1, 3, 3, 1, 3, 3, 3, 1]) (numc := [false, true, true, true, true, false, true, true, true, true]) (okT := [68]) (cl := cl_ends v (r :: rs) (i + 1) k (lowR r (rs.take i)) (jT r (rs.take i)) rs[i]) (c := 3) (d := 4) (p0 := op 0) (p4 := op 1) rfl rfl (zl i).1 (zl i).2 hS ((cS rfl).2 rfl) ((jA rfl).2 rfl)
   have hT : ∀ t ∈ t_endsA true ++ t_endsB, t.Valid (C_ends v (r :: rs) (i + 1) k (lowR r (rs.take i)) (jT r (rs.take i)) rs[i] w) :=
    t_app (ca (e_lenL (jj rfl) hv (rv rfl)) (ca (kj (pv rfl) (pv rfl) (decide_eq_true (by simp; omega))) ce))
     (ca (e_ixL (n := i + 1) (jj rfl) hv (pv rfl) (by simp; omega) (kn rfl)) (ca (e_ldL (n := i + 1) (jj rfl) hv he (hz _ (by simp)) rfl) (ca (e_rminm (pr rfl) (pr rfl) rfl hfk hfk hf5) (ca (e_rmaxm (pr rfl) (pr rfl) rfl hfk hfk hf5) (ca (e_add (by omega) (pv rfl) jR (rv rfl) (by omega)) ce)))))
   refine cE (ends_C h9 _ _ _ _ _ _ _) hT (x := .normal) (n := 30) (post := [.box 2 68 zsp, .box 3 68 [.cls 7 3, .cls 8 3], .val 0 (op 0), .val 4 (op 9)]) (by kernel_rfl) hA (fun a2 w2 hA => ⟨i + 1, ⟨hend, ?_⟩, by show rs.length - (i + 1) < rs.length - i; omega⟩)
   have hS := at_ste (i := i + 1 + 1) rfl rfl hA (fun w u hu => (cS rfl).1 hu) (fun w u hu => (jA rfl).1 hu)
   have e1 : lowR r (rs.take (i + 1)) = jZ (lowR r (rs.take i)) rs[i] := by
    unfold lowR
    rw [List.take_add_one, List.getElem?_eq_getElem hend, List.foldl_append]
    rfl
   have e2 : jT r (rs.take (i + 1)) = ka (jT r (rs.take i)) rs[i] := by
    unfold jT
    rw [List.take_add_one, List.getElem?_eq_getElem hend, List.foldl_append]
    rfl
   rw [e1, e2]
   exact hS
 · have hT : ∀ t ∈ t_endsA false, t.Valid (C_ends v (r :: rs) (i + 1) k (lowR r (rs.take i)) (jT r (rs.take i)) 0 w) :=
    ca (e_lenL (jj rfl) hv (rv rfl)) (ca (kj (pv rfl) (pv rfl) (decide_eq_false (by simp; omega))) ce)
   have hA := ste_at (csz := [1, 1, 1, 3, 3, 1, 3, 3, 3, 1]) (numc := [false, true, true, true, true, false, true, true, true, true]) (okT := [68]) (cl := cl_ends v (r :: rs) (i + 1) k (lowR r (rs.take i)) (jT r (rs.take i)) 0) (c := 3) (d := 4) (p0 := op 0) (p4 := op 1) rfl rfl (zl i).1 (zl i).2 hS ((cS rfl).2 rfl) ((jA rfl).2 rfl)
   refine wp_seq (cE (ends_C h9 _ _ _ _ _ _ _) hT (x := .exit 0) (n := 30) (post := [.box 2 68 zsp, .box 3 68 [.cls 3 3, .cls 4 3]]) (by kernel_rfl) hA (fun a2 w2 hA => ?_))
   show (cq (cq (cq b_ends))).wp Tryz.prog _ a2 w2
   refine cE (ends_C h9 _ _ _ _ _ _ _) (T := []) ce (x := .ret) (n := 30) (post := [.box 2 68 [.cls 3 3, .cls 4 3]]) (by kernel_rfl) hA (fun a3 w3 hA => ?_)
   obtain ⟨bk, vs, q1, _, _, q3, q4, _⟩ := hA.items
   have hrs := (ju (c := 3) (d := 4) (cl := cl_ends v (r :: rs) (i + 1) k (lowR r (rs.take i)) (jT r (rs.take i)) 0) rfl rfl).1 ⟨vs, q4, rfl⟩
   have hvs : vs.length = 6 := by
    obtain ⟨xs, ys, rfl, ⟨f, _, rfl⟩, ⟨xs', ys', rfl, ⟨f', _, rfl⟩, hy⟩⟩ := q4
    rw [show ys' = [] from hy]
    rfl
   have hi2 : i = rs.length := by omega
   rw [hi2, List.take_length] at hrs
   refine ⟨hA.defers, .agg vs.toArray, ?_, ⟨_, rfl, hrs.1, hA.below⟩⟩
   have hlv : (loadVar 68 ⟨bk, 0, none⟩).run Tryz.prog w3 = .ok (.agg vs.toArray) w3 := by
    obtain ⟨inf, hinf, hsz⟩ := Option.map_eq_some_iff.1 (show (Tryz.prog.info? 68).map (fun i => i.size) = some 6 by kernel_rfl)
    have hl := run_loadCells_list (P := Tryz.prog) (w := w3) ⟨bk, 0, none⟩ vs (fun j v hj => by rw [jo, Nat.zero_add]; simpa [World.cell?, q3] using hj)
    rw [hvs, ← hsz] at hl
    obtain ⟨d, hd, hag⟩ : ∃ d, Tryz.prog.underlying 68 = some d ∧ isAggD d = true := ⟨_, und_spanT, by kernel_rfl⟩
    simp [loadVar, jW hd, hag, jP hinf, hl]
   rw [results_eq, show Tryz.f104.results = #[.cell 2 68] from rfl]
   have e1 : a3.tmps.getD 2 undef = .pointer (some ⟨bk, 0, none⟩) := by rw [Array.getD_eq_getD_getElem?, q1]; rfl
   simp [resF, e1, asAddr]
   exact hlv
end Sym
open Go Go.RowKit Go.Proofs Lim
namespace Sym
def clL (rs : List Rat) (k : Nat) : Cl := ⟨[], 1, false, fun w f => Lst w (f 0) rs ∧ ∀ r ∈ rs, cB r k⟩
theorem RQ.only {w w' : World} {R : Nat} {cs : Array Value} {t : TypeId} {v : Value} {r : Rat} (ho : w.heap[R]? = some (.cells cs t (0, 0))) (ht : t ≠ 3) (hb : jb R w w') (h : RQ w v r) : RQ w' v r := by
 obtain ⟨a, b, e, h1, h2⟩ := h
 exact ⟨a, b, e, Dg.only ho ht h1 hb, Dg.only ho ht h2 hb⟩
theorem Lst.only {w w' : World} {R : Nat} {cs : Array Value} {t : TypeId} {v : Value} {rs : List Rat} (ho : w.heap[R]? = some (.cells cs t (0, 0))) (ht : t ≠ 3) (ht' : 2 ≤ rs.length) (hf : boxFull Tryz.prog t cs.size = true) (hb : jb R w w') (h : Lst w v rs) : Lst w' v rs := by
 obtain ⟨b, cap, arr, fr, hv, hc, h1⟩ := h
 have hne : b ≠ R := by
  rintro rfl
  rw [ho] at hc
  injection hc with hc
  injection hc with hcs hc
  subst hcs hc
  obtain ⟨x, y, z, _, _, e3, _⟩ := h1 1 _ (List.getElem?_eq_getElem (by omega))
  have h5 := (Array.getElem?_eq_some_iff.1 e3).1
  have hi : (Tryz.prog.info? 33).map (fun i => i.size) = some 3 := by kernel_rfl
  obtain ⟨i, hi, hi2⟩ := Option.map_eq_some_iff.1 hi
  simp only [boxFull, hi, hi2] at hf
  have := Nat.eq_of_beq_eq_true hf
  omega
 refine ⟨b, cap, arr, fr, hv, (hb.block b hne).trans hc, fun i r hi => ?_⟩
 obtain ⟨x, y, z, e1, e2, e3, h2⟩ := h1 i r hi
 exact ⟨x, y, z, e1, e2, e3, h2.only ho ht hb⟩
theorem clL_ok {okT : List Nat} {B : Nat} (ht : ∀ t ∈ okT, t ≠ 3) (rs : List Rat) (k : Nat) (hl : Nat.ble 2 rs.length = true) : (clL rs k).Ok okT B := by
 refine ⟨fun w w' f hb h => ⟨h.1.below hb (Nat.le_refl _), h.2⟩, fun w w' R f cs t _ _ ho hm _ hf hb h => ⟨h.1.only ho (ht t hm) (Nat.le_of_ble_eq_true hl) hf hb, h.2⟩, fun _ _ h _ => absurd h (by simp [clL]), ?_⟩
 intro w f j h hj
 have hj : j < 1 := hj
 obtain rfl : j = 0 := by omega
 exact h.1.one
def NumsAre (cl : List Cl) : List Grp → List Rat → Nat → Prop
 | [], rs, _ => rs = []
 | g :: gs, rs, k => ∃ c r rs' k1, g = .cls c 3 ∧ rs = r :: rs' ∧ cl[c]? = some (cN r k1) ∧ k1 ≤ k ∧ NumsAre cl gs rs' k
section
variable {csz : List Nat} {numc : List Bool} {okT : List Nat} {nt : Nat} {cl : List Cl} {w0 : World} {w : World} {v z : Value} {p1 p2 p3 p4 : jQ} {res : RPat} {c d c1 c2 c3 c4 c5 c6 : Nat} {r s t r1 r2 r3 r4 : Rat} {k k1 k2 k3 k4 k5 k6 : Nat} {rs : List Rat}
theorem nums_cells : ∀ {gs : List Grp} {rs : List Rat} {vs : List Value}, NumsAre cl gs rs k → jL (mkC csz numc okT nt cl w0) w gs vs → vs.length = 3 * rs.length ∧ ∀ i r, rs[i]? = some r → cB r k ∧ ∃ x y z, vs[3 * i]? = some x ∧ vs[3 * i + 1]? = some y ∧ vs[3 * i + 2]? = some z ∧ RQ w (.agg #[x, y, z]) r
 | [], rs, vs, h, hg => by
  rw [show rs = [] from h, show vs = [] from hg]
  exact ⟨rfl, fun i r hi => by simp at hi⟩
 | g :: gs, rs, vs, ⟨c, r, rs', k1, e1, e2, hc, hk, h⟩, ⟨xs, ys, e3, hx, hy⟩ => by
  subst e1 e2 e3
  obtain ⟨f, hE, rfl⟩ := hx
  simp only [mkC, hc] at hE
  obtain ⟨q1, q2⟩ := nums_cells h hy
  refine ⟨by simp [q1]; omega, fun i u hi => ?_⟩
  cases i with
  | zero =>
   have : u = r := by simpa using hi.symm
   subst this
   exact ⟨hE.2.le hk, f 0, f 1, f 2, rfl, rfl, rfl, hE.1⟩
  | succ i =>
   obtain ⟨g1, x, y, z, g2, g3, g4, g5⟩ := q2 i u (by simpa using hi)
   refine ⟨g1, x, y, z, ?_, ?_, ?_, g5⟩
   · rw [show 3 * (i + 1) = 3 + 3 * i by omega, List.getElem?_append_right (by simp)]; simpa using g2
   · rw [show 3 * (i + 1) + 1 = 3 + (3 * i + 1) by omega, List.getElem?_append_right (by simp)]; simpa using g3
   · rw [show 3 * (i + 1) + 2 = 3 + (3 * i + 2) by omega, List.getElem?_append_right (by simp)]; simpa using g4
def PL (csz : List Nat) (numc : List Bool) (okT : List Nat) (nt : Nat) (cl : List Cl) (w0 : World) (p : jQ) (rs : List Rat) (k : Nat) : Prop := ∀ w v, p.is (mkC csz numc okT nt cl w0) w v → Lst w v rs ∧ ∀ r ∈ rs, cB r k
theorem plS {gs : List Grp} {n : Nat} (h : NumsAre cl gs rs k) (hn : n = rs.length) : PL csz numc okT nt cl w0 (.slc 33 n gs) rs k := by
 rintro w v ⟨b, vs, rfl, hb, hg⟩
 obtain ⟨q1, q2⟩ := nums_cells h hg
 subst hn
 refine ⟨⟨b, _, vs.toArray, _, rfl, hb, fun i r hi => ?_⟩, fun r hr => ?_⟩
 · obtain ⟨_, x, y, z, g2, g3, g4, g5⟩ := q2 i r hi
   exact ⟨x, y, z, by simpa using g2, by simpa using g3, by simpa using g4, g5⟩
 · obtain ⟨i, hi⟩ := List.mem_iff_getElem?.1 hr
   exact (q2 i r hi).1
theorem op_isL (h : cl[c]? = some (clL rs k)) : (op c).is (mkC csz numc okT nt cl w0) w v ↔ Lst w v rs ∧ ∀ r ∈ rs, cB r k := by
 constructor
 · rintro ⟨f, hE, hv⟩
   simp only [mkC, h] at hE
   have : v = f 0 := by simpa [List.range_succ] using hv
   rw [this]; exact hE
 · intro hv
   refine ⟨fun _ => v, ?_, rfl⟩
   simp only [mkC, h]
   exact hv
theorem plC (h : cl[c]? = some (clL rs k)) : PL csz numc okT nt cl w0 (op c) rs k := fun _ _ hp => (op_isL h).1 hp
theorem ends_siz {r : Rat} {rs : List Rat} (h : ∀ x ∈ r :: rs, cB x k) : cB (lowR r rs) k ∧ cB (jT r rs) k := by
 have key : ∀ (l : List Rat) (x y : Rat), (∀ u ∈ l, cB u k) → cB x k → cB y k → cB (lowR x l) k ∧ cB (jT y l) k := by
  intro l
  induction l with
  | nil => exact fun x y _ h1 h2 => ⟨h1, h2⟩
  | cons u l ih => exact fun x y h h1 h2 => ih (jZ x u) (ka y u) (fun t ht => h t (by simp [ht])) (minQ_siz h1 (h u (by simp))) (maxQ_siz h2 (h u (by simp)))
 exact key rs r r (fun u hu => h u (by simp [hu])) (h r (by simp)) (h r (by simp))
theorem e_ends (h1 : PL csz numc okT nt cl w0 p1 (r :: rs) k) (hl : Nat.ble rs.length 100000 = true) (h5 : cl[c5]? = some (cN (lowR r rs) k5)) (h6 : cl[c6]? = some (cN (jT r rs) k6)) (hk5 : fitr k k5 = true) (hk6 : fitr k k6 = true) (hk' : fitr k 5000 = true) : V csz numc okT nt cl w0 (.call 104) [p1] (.val (rsp c5 c6)) := by
 refine ⟨enters_of Tryz.func104 (by kernel_rfl) rfl, fun w vs hb hvs => ?_⟩
 obtain ⟨v1, _, rfl, h4, rfl⟩ := hvs
 obtain ⟨g1, g2⟩ := h1 _ _ h4
 have hl := Nat.le_of_ble_eq_true hl
 refine (ends_ok v1 r rs k w g1 g2 (jr hk').1 (by omega)).mono ?_
 rintro e w' ⟨u, rfl, hu, hb'⟩
 exact ⟨_, rfl, (ju h5 h6).2 ⟨hu, (ends_siz g2).1.le (jr hk5).1, (ends_siz g2).2.le (jr hk6).1⟩, hb'⟩
theorem e_app {gs : List Grp} {n : Nat} (h1 : NumsAre cl gs rs k) (hn : n = rs.length) (hnl : Nat.ble n 1000 = true) (h2 : cl[c1]? = some (cN r k1)) (hk : k1 ≤ k) (h3 : cl[c2]? = some (clL (rs ++ [r]) k)) : V csz numc okT nt cl w0 (.blt .append [92, 92] 92) [.slc 33 n gs, .slc 33 1 [.cls c1 3]] (.val (op c2)) := by
 intro w ρ oo xs ho hb hvs
 obtain ⟨c, hop, hc, hat, hty, rfl⟩ := hd_blt ho
 obtain ⟨v1, _, e1, ⟨b, vs, rfl, hvb, hg⟩, v2, _, e2, ⟨b', us, rfl, hub, hg'⟩, e3⟩ := hvs
 subst e2
 subst e3
 subst hn
 have hnl := Nat.le_of_ble_eq_true hnl
 obtain ⟨q1, q2⟩ := nums_cells h1 hg
 obtain ⟨q3, q4⟩ := nums_cells (rs := [r]) (k := k) (gs := [.cls c1 3]) ⟨c1, r, [], k1, rfl, rfl, h2, hk, rfl⟩ hg'
 obtain ⟨inf, hinf, hz, hsz, hby⟩ : ∃ inf, Tryz.prog.info? 33 = some inf ∧ inf.zero = some (.agg #[.bool false, .slice none 0 0, .slice none 0 0]) ∧ inf.size = 3 ∧ inf.bytes = 56 := by
  have h : (Tryz.prog.info? 33).map (fun i => (i.zero, i.size, i.bytes)) = some (some (.agg #[.bool false, .slice none 0 0, .slice none 0 0]), 3, 56) := by kernel_rfl
  obtain ⟨i, h1, h2⟩ := Option.map_eq_some_iff.1 h
  simp only [Prod.mk.injEq] at h2
  exact ⟨i, h1, h2.1, h2.2.1, h2.2.2⟩
 have hu : Tryz.prog.underlying 92 = some (.slice 33) := by kernel_rfl
 have hr := run_append_grow (P := Tryz.prog) w 92 92 33 inf (.agg #[.bool false, .slice none 0 0, .slice none 0 0]) hu hinf hz ⟨b, 0, none⟩ rs.length rs.length vs (by rw [hsz, q1, Nat.mul_comm]) (fun j u hj => by rw [jo]; simpa [World.cell?, hvb] using hj) ⟨b', 0, none⟩ 1 1 us (by rw [hsz, q3]; rfl) (fun j u hj => by rw [jo]; simpa [World.cell?, hub] using hj) (by omega) (by omega) (growslice_fits (by omega) (by rw [hby]; omega))
 have hrun : (execOp ρ oo).run Tryz.prog w = .ok (.value (.slice (some ⟨w.heap.size, 0, none⟩) (rs.length + 1) (grownCap w (rs.length + 1) rs.length 33))) (w.drew.alloc (.cells (vs.toArray ++ us.toArray ++ Builtin.zeroCells (Value.cells (.agg #[.bool false, .slice none 0 0, .slice none 0 0])) (grownCap w (rs.length + 1) rs.length 33 - (rs.length + 1))) 33)) := by
  have he : c.args.map ρ = #[Value.slice (some ⟨b, 0, none⟩) rs.length rs.length, .slice (some ⟨b', 0, none⟩) 1 1] := by
   apply Array.ext'
   simpa using e1
  simp only [execOp, hop, resolve, hc, he, Sem.run_bind, Sem.run_pure, Result.andThen_ok, invoke, builtin, hat, hty, hr]
 refine ⟨_, _, hrun, (op_isL h3).2 ⟨⟨w.heap.size, _, _, _, by rw [List.length_append]; rfl, heap_alloc_new w.drew _, fun i u hi => ?_⟩, fun u hu => ?_⟩, ?_⟩
 · have key : ∀ x ∈ [3 * i, 3 * i + 1, 3 * i + 2], x < 3 * (rs.length + 1) → (vs.toArray ++ us.toArray ++ Builtin.zeroCells (Value.cells (.agg #[.bool false, .slice none 0 0, .slice none 0 0])) (grownCap w (rs.length + 1) rs.length 33 - (rs.length + 1)))[x]? = (vs ++ us)[x]? := by
    intro x _ hx
    rw [Array.getElem?_append_left (by simp [q1, q3]; omega)]
    simp
   have hil : i < rs.length + 1 := by
    have := (List.getElem?_eq_some_iff.1 hi).1
    simpa using this
   rw [key _ (by simp) (by omega), key _ (by simp) (by omega), key _ (by simp) (by omega)]
   rcases Nat.lt_or_ge i rs.length with h | h
   · rw [List.getElem?_append_left h] at hi
     obtain ⟨_, x, y, z, g2, g3, g4, g5⟩ := q2 i u hi
     refine ⟨x, y, z, ?_, ?_, ?_, g5.below ?_ (Nat.le_refl _)⟩
     · rw [List.getElem?_append_left (by omega)]; exact g2
     · rw [List.getElem?_append_left (by omega)]; exact g3
     · rw [List.getElem?_append_left (by omega)]; exact g4
     · exact (Below.refl _ w).drew.alloc (Nat.le_refl _) _
   · obtain rfl : i = rs.length := by omega
     rw [List.getElem?_append_right (Nat.le_refl _), Nat.sub_self] at hi
     obtain ⟨_, x, y, z, g2, g3, g4, g5⟩ := q4 0 u hi
     refine ⟨x, y, z, ?_, ?_, ?_, g5.below ?_ (Nat.le_refl _)⟩
     · rw [List.getElem?_append_right (by omega), show 3 * rs.length - vs.length = 0 by omega]; exact g2
     · rw [List.getElem?_append_right (by omega), show 3 * rs.length + 1 - vs.length = 1 by omega]; exact g3
     · rw [List.getElem?_append_right (by omega), show 3 * rs.length + 2 - vs.length = 2 by omega]; exact g4
     · exact (Below.refl _ w).drew.alloc (Nat.le_refl _) _
 · rcases List.mem_append.1 hu with h | h
   · obtain ⟨i, hi⟩ := List.mem_iff_getElem?.1 h
     exact (q2 i u hi).1
   · have : u = r := by simpa using h
     subst this
     exact (q4 0 u rfl).1
 · exact .inl ((Below.refl _ w).drew.alloc (Nat.le_refl _) _)
end
end Sym
open Go Go.RowKit Go.Proofs Lim
namespace Sym
def hasR (lo hi x : Rat) : Bool := decide (lo ≤ x) && decide (x ≤ hi)
theorem cmp_le_iff {r s : Rat} : jN r s ≤ 0 ↔ r ≤ s := by
 rcases cmpQ_cases r s with ⟨h, g⟩ | ⟨h, g⟩ | ⟨h, g⟩ <;> rw [h] <;> grind
theorem cmp_has {lo hi x : Rat} {i j : Int} (h1 : jN lo x = i) (h2 : jN x hi = j) : hasR lo hi x = (decide (i ≤ 0) && decide (j ≤ 0)) := by
 subst h1 h2
 unfold hasR
 congr 1 <;> (congr 1; exact propext cmp_le_iff.symm)
noncomputable def cl_rbetween_1 (a : Rat) (b : Rat) : List Cl := [
 cN a 400,
 cN b 400,
 cN (jZ a b) 400,
 cN (ka a b) 400]
def t_rbetween_1 : List cW := [
 ⟨.call 106, [rq 0, rq 1], (.val (rq 2))⟩,
 ⟨.call 107, [rq 0, rq 1], (.val (rq 3))⟩]
set_option maxRecDepth 100000 in
theorem rbetween_ok (v0 : Value) (v1 : Value) (a b : Rat) (w : World) (q0 : RQ w v0 a) (q1 : RQ w v1 b) (za : cB a 400) (zb : cB b 400)  :
 Calls Tryz.prog 101 #[v0, v1] w (fun en w' => ∃ v, en = .returned v ∧ RSp w' v (jZ a b) (ka a b) ∧ cB (jZ a b) 400 ∧ cB (ka a b) 400 ∧ Below w.heap.size w w') := by
 have hC : (mkC [3, 3, 3, 3] [true, true, true, true] [33, 68] 12 (cl_rbetween_1 a b) w).Ok := cL (cb (co (by decide) _ _) <| cb (co (by decide) _ _) <| cb (co (by decide) _ _) <| cb (co (by decide) _ _) <| cD) rfl rfl
 have hT : ∀ t ∈ t_rbetween_1, t.Valid (mkC [3, 3, 3, 3] [true, true, true, true] [33, 68] 12 (cl_rbetween_1 a b) w) :=
  ca (e_rminm (pr rfl) (pr rfl) rfl rfl rfl rfl) <|
  ca (e_rmaxm (pr rfl) (pr rfl) rfl rfl rfl rfl) <|
  ce
 refine Calls.mono (cM hC hT 101 Tryz.f101 [rq 0, rq 1] (.val (rsp 2 3)) 200 Tryz.func101 rfl rfl rfl (by kernel_rfl) [v0, v1] ⟨v0, _, rfl, (ji rfl).2 ⟨q0, za⟩, ⟨v1, _, rfl, (ji rfl).2 ⟨q1, zb⟩, rfl⟩⟩) ?_
 rintro e w' ⟨v, rfl, hv, hb⟩; obtain ⟨h1, h2, h3⟩ := (ju rfl rfl).1 hv; exact ⟨v, rfl, h1, h2, h3, hb⟩
theorem e_rbetween {csz : List Nat} {numc : List Bool} {okT : List Nat} {nt : Nat} {cl : List Cl} {w0 : World} {p1 p2 : jQ} {c1 c2 k1 k2 : Nat} {a b : Rat}  (h1 : PR csz numc okT nt cl w0 p1 a k1) (h2 : PR csz numc okT nt cl w0 p2 b k2) (fk1 : fitr k1 400 = true) (fk2 : fitr k2 400 = true)  (g1 : cl[c1]? = some (cN (jZ a b) 400)) (g2 : cl[c2]? = some (cN (ka a b) 400)) : V csz numc okT nt cl w0 (.call 101) [p1, p2] (.val (rsp c1 c2)) := by
 refine ⟨enters_of Tryz.func101 (by kernel_rfl) rfl, fun w vs hb hvs => ?_⟩
 obtain ⟨u1, _, rfl, j1, ⟨u2, _, rfl, j2, rfl⟩⟩ := hvs
 have i1 := h1 _ _ j1
 have i2 := h2 _ _ j2
 refine (rbetween_ok u1 u2 _ _ w i1.1 i2.1 (i1.2.le (jr fk1).1) (i2.2.le (jr fk2).1) ).mono ?_
 rintro e w' ⟨v, rfl, q1, q2, q3, hb'⟩
 exact ⟨v, rfl, (ju g1 g2).2 ⟨q1, q2, q3⟩, hb'⟩
noncomputable def cl_rplussp_1 (a : Rat) (b : Rat) (c : Rat) (d : Rat) : List Cl := [
 cN a 400,
 cN b 400,
 cN c 400,
 cN d 400,
 cN (a + c) 801,
 cN (b + d) 801]
def t_rplussp_1 : List cW := [
 ⟨.call 26, [rq 0, rq 2], (.val (rq 4))⟩,
 ⟨.call 26, [rq 1, rq 3], (.val (rq 5))⟩]
set_option maxRecDepth 100000 in
theorem rplussp_ok (v0 : Value) (v1 : Value) (a b c d : Rat) (w : World) (q0 : RSp w v0 a b) (q1 : RSp w v1 c d) (za : cB a 400) (zb : cB b 400) (zc : cB c 400) (zd : cB d 400)  :
 Calls Tryz.prog 48 #[v0, v1] w (fun en w' => ∃ v, en = .returned v ∧ RSp w' v (a + c) (b + d) ∧ cB (a + c) 801 ∧ cB (b + d) 801 ∧ Below w.heap.size w w') := by
 have hC : (mkC [3, 3, 3, 3, 3, 3] [true, true, true, true, true, true] [33, 68] 16 (cl_rplussp_1 a b c d) w).Ok := cL (cb (co (by decide) _ _) <| cb (co (by decide) _ _) <| cb (co (by decide) _ _) <| cb (co (by decide) _ _) <| cb (co (by decide) _ _) <| cb (co (by decide) _ _) <| cD) rfl rfl
 have hT : ∀ t ∈ t_rplussp_1, t.Valid (mkC [3, 3, 3, 3, 3, 3] [true, true, true, true, true, true] [33, 68] 16 (cl_rplussp_1 a b c d) w) :=
  ca (e_radd (pr rfl) (pr rfl) rfl rfl) <|
  ca (e_radd (pr rfl) (pr rfl) rfl rfl) <|
  ce
 refine Calls.mono (cM hC hT 48 Tryz.f48 [rsp 0 1, rsp 2 3] (.val (rsp 4 5)) 200 Tryz.func48 rfl rfl rfl (by kernel_rfl) [v0, v1] ⟨v0, _, rfl, (ju rfl rfl).2 ⟨q0, za, zb⟩, ⟨v1, _, rfl, (ju rfl rfl).2 ⟨q1, zc, zd⟩, rfl⟩⟩) ?_
 rintro e w' ⟨v, rfl, hv, hb⟩; obtain ⟨h1, h2, h3⟩ := (ju rfl rfl).1 hv; exact ⟨v, rfl, h1, h2, h3, hb⟩
noncomputable def cl_rtimessp_1 (a : Rat) (b : Rat) (c : Rat) (d : Rat) : List Cl := [
 cN a 400,
 cN b 400,
 cN c 400,
 cN d 400,
 cN (a * c) 800,
 cN (a * d) 800,
 cN (b * c) 800,
 cN (b * d) 800,
 cN (lowR (a * c) [a * d, b * c, b * d]) 800,
 cN (jT (a * c) [a * d, b * c, b * d]) 800]
def t_rtimessp_1 : List cW := [
 ⟨.call 30, [rq 0, rq 2], (.val (rq 4))⟩,
 ⟨.call 30, [rq 0, rq 3], (.val (rq 5))⟩,
 ⟨.call 30, [rq 1, rq 2], (.val (rq 6))⟩,
 ⟨.call 30, [rq 1, rq 3], (.val (rq 7))⟩,
 ⟨.call 104, [.slc 33 4 [.cls 4 3, .cls 5 3, .cls 6 3, .cls 7 3]], (.val (rsp 8 9))⟩]
set_option maxRecDepth 100000 in
theorem rtimessp_ok (v0 : Value) (v1 : Value) (a b c d : Rat) (w : World) (q0 : RSp w v0 a b) (q1 : RSp w v1 c d) (za : cB a 400) (zb : cB b 400) (zc : cB c 400) (zd : cB d 400)  :
 Calls Tryz.prog 52 #[v0, v1] w (fun en w' => ∃ v, en = .returned v ∧ RSp w' v (lowR (a * c) [a * d, b * c, b * d]) (jT (a * c) [a * d, b * c, b * d]) ∧ cB (lowR (a * c) [a * d, b * c, b * d]) 800 ∧ cB (jT (a * c) [a * d, b * c, b * d]) 800 ∧ Below w.heap.size w w') := by
 have hC : (mkC [3, 3, 3, 3, 3, 3, 3, 3, 3, 3] [true, true, true, true, true, true, true, true, true, true] [33, 68] 27 (cl_rtimessp_1 a b c d) w).Ok := cL (cb (co (by decide) _ _) <| cb (co (by decide) _ _) <| cb (co (by decide) _ _) <| cb (co (by decide) _ _) <| cb (co (by decide) _ _) <| cb (co (by decide) _ _) <| cb (co (by decide) _ _) <| cb (co (by decide) _ _) <| cb (co (by decide) _ _) <| cb (co (by decide) _ _) <| cD) rfl rfl
 have hT : ∀ t ∈ t_rtimessp_1, t.Valid (mkC [3, 3, 3, 3, 3, 3, 3, 3, 3, 3] [true, true, true, true, true, true, true, true, true, true] [33, 68] 27 (cl_rtimessp_1 a b c d) w) :=
  ca (e_rmul (pr rfl) (pr rfl) rfl rfl) <|
  ca (e_rmul (pr rfl) (pr rfl) rfl rfl) <|
  ca (e_rmul (pr rfl) (pr rfl) rfl rfl) <|
  ca (e_rmul (pr rfl) (pr rfl) rfl rfl) <|
  ca (e_ends (plS (rs := [a * c, a * d, b * c, b * d]) (k := 800) ⟨_, _, _, _, rfl, rfl, rfl, by decide, ⟨_, _, _, _, rfl, rfl, rfl, by decide, ⟨_, _, _, _, rfl, rfl, rfl, by decide, ⟨_, _, _, _, rfl, rfl, rfl, by decide, rfl⟩⟩⟩⟩ rfl) rfl rfl rfl rfl rfl rfl) <|
  ce
 refine Calls.mono (cM hC hT 52 Tryz.f52 [rsp 0 1, rsp 2 3] (.val (rsp 8 9)) 200 Tryz.func52 rfl rfl rfl (by kernel_rfl) [v0, v1] ⟨v0, _, rfl, (ju rfl rfl).2 ⟨q0, za, zb⟩, ⟨v1, _, rfl, (ju rfl rfl).2 ⟨q1, zc, zd⟩, rfl⟩⟩) ?_
 rintro e w' ⟨v, rfl, hv, hb⟩; obtain ⟨h1, h2, h3⟩ := (ju rfl rfl).1 hv; exact ⟨v, rfl, h1, h2, h3, hb⟩
noncomputable def cl_rvalue_1 (a : Rat) (b : Rat) (c : Rat) (d : Rat) : List Cl := [
 cN a 810,
 cN b 810,
 cN c 810,
 cN d 810,
 cN (d * d) 1620,
 cN (a * (d * d)) 2430,
 cN (b * d) 1620,
 cN ((a * (d * d)) + (b * d)) 4051,
 cN (((a * (d * d)) + (b * d)) + c) 4862]
def t_rvalue_1 : List cW := [
 ⟨.call 30, [rq 3, rq 3], (.val (rq 4))⟩,
 ⟨.call 30, [rq 0, rq 4], (.val (rq 5))⟩,
 ⟨.call 30, [rq 1, rq 3], (.val (rq 6))⟩,
 ⟨.call 26, [rq 5, rq 6], (.val (rq 7))⟩,
 ⟨.call 26, [rq 7, rq 2], (.val (rq 8))⟩]
set_option maxRecDepth 100000 in
theorem rvalue_ok (v0 : Value) (v1 : Value) (v2 : Value) (v3 : Value) (a b c d : Rat) (w : World) (q0 : RQ w v0 a) (q1 : RQ w v1 b) (q2 : RQ w v2 c) (q3 : RQ w v3 d) (za : cB a 810) (zb : cB b 810) (zc : cB c 810) (zd : cB d 810)  :
 Calls Tryz.prog 113 #[v0, v1, v2, v3] w (fun en w' => ∃ v, en = .returned v ∧ RQ w' v (((a * (d * d)) + (b * d)) + c) ∧ cB (((a * (d * d)) + (b * d)) + c) 4862 ∧ Below w.heap.size w w') := by
 have hC : (mkC [3, 3, 3, 3, 3, 3, 3, 3, 3] [true, true, true, true, true, true, true, true, true] [33, 68] 20 (cl_rvalue_1 a b c d) w).Ok := cL (cb (co (by decide) _ _) <| cb (co (by decide) _ _) <| cb (co (by decide) _ _) <| cb (co (by decide) _ _) <| cb (co (by decide) _ _) <| cb (co (by decide) _ _) <| cb (co (by decide) _ _) <| cb (co (by decide) _ _) <| cb (co (by decide) _ _) <| cD) rfl rfl
 have hT : ∀ t ∈ t_rvalue_1, t.Valid (mkC [3, 3, 3, 3, 3, 3, 3, 3, 3] [true, true, true, true, true, true, true, true, true] [33, 68] 20 (cl_rvalue_1 a b c d) w) :=
  ca (e_rmul (pr rfl) (pr rfl) rfl rfl) <|
  ca (e_rmul (pr rfl) (pr rfl) rfl rfl) <|
  ca (e_rmul (pr rfl) (pr rfl) rfl rfl) <|
  ca (e_radd (pr rfl) (pr rfl) rfl rfl) <|
  ca (e_radd (pr rfl) (pr rfl) rfl rfl) <|
  ce
 refine Calls.mono (cM hC hT 113 Tryz.f113 [rq 0, rq 1, rq 2, rq 3] (.val (rq 8)) 200 Tryz.func113 rfl rfl rfl (by kernel_rfl) [v0, v1, v2, v3] ⟨v0, _, rfl, (ji rfl).2 ⟨q0, za⟩, ⟨v1, _, rfl, (ji rfl).2 ⟨q1, zb⟩, ⟨v2, _, rfl, (ji rfl).2 ⟨q2, zc⟩, ⟨v3, _, rfl, (ji rfl).2 ⟨q3, zd⟩, rfl⟩⟩⟩⟩) ?_
 rintro e w' ⟨v, rfl, hv, hb⟩; obtain ⟨h1, h2⟩ := (ji rfl).1 hv; exact ⟨v, rfl, h1, h2, hb⟩
theorem e_rvalue {csz : List Nat} {numc : List Bool} {okT : List Nat} {nt : Nat} {cl : List Cl} {w0 : World} {p1 p2 p3 p4 : jQ} {c1 k1 k2 k3 k4 : Nat} {a b c d : Rat}  (h1 : PR csz numc okT nt cl w0 p1 a k1) (h2 : PR csz numc okT nt cl w0 p2 b k2) (h3 : PR csz numc okT nt cl w0 p3 c k3) (h4 : PR csz numc okT nt cl w0 p4 d k4) (fk1 : fitr k1 810 = true) (fk2 : fitr k2 810 = true) (fk3 : fitr k3 810 = true) (fk4 : fitr k4 810 = true)  (g1 : cl[c1]? = some (cN (((a * (d * d)) + (b * d)) + c) 4862)) : V csz numc okT nt cl w0 (.call 113) [p1, p2, p3, p4] (.val (rq c1)) := by
 refine ⟨enters_of Tryz.func113 (by kernel_rfl) rfl, fun w vs hb hvs => ?_⟩
 obtain ⟨u1, _, rfl, j1, ⟨u2, _, rfl, j2, ⟨u3, _, rfl, j3, ⟨u4, _, rfl, j4, rfl⟩⟩⟩⟩ := hvs
 have i1 := h1 _ _ j1
 have i2 := h2 _ _ j2
 have i3 := h3 _ _ j3
 have i4 := h4 _ _ j4
 refine (rvalue_ok u1 u2 u3 u4 _ _ _ _ w i1.1 i2.1 i3.1 i4.1 (i1.2.le (jr fk1).1) (i2.2.le (jr fk2).1) (i3.2.le (jr fk3).1) (i4.2.le (jr fk4).1) ).mono ?_
 rintro e w' ⟨v, rfl, q1, q2, hb'⟩
 exact ⟨v, rfl, (ji g1).2 ⟨q1, q2⟩, hb'⟩
theorem first_has {lo hi x : Rat} (h1 : jN lo x = 1) : hasR lo hi x = false := by
 unfold hasR
 have : ¬ lo ≤ x := fun h => by have := cmp_le_iff.2 h; omega
 rw [decide_eq_false this, Bool.false_and]
noncomputable def cl_rhas_1 (a : Rat) (b : Rat) (c : Rat) : List Cl := [
 cN a 810,
 cN b 810,
 cN c 810]
def t_rhas_1 : List cW := [
 ⟨.call 32, [rq 0, rq 2], (.val (vp (.int .i64 (-1))))⟩,
 ⟨.call 32, [rq 2, rq 1], (.val (vp (.int .i64 (-1))))⟩]
noncomputable def cl_rhas_2 (a : Rat) (b : Rat) (c : Rat) : List Cl := [
 cN a 810,
 cN b 810,
 cN c 810]
def t_rhas_2 : List cW := [
 ⟨.call 32, [rq 0, rq 2], (.val (vp (.int .i64 (-1))))⟩,
 ⟨.call 32, [rq 2, rq 1], (.val (vp (.int .i64 0)))⟩]
noncomputable def cl_rhas_3 (a : Rat) (b : Rat) (c : Rat) : List Cl := [
 cN a 810,
 cN b 810,
 cN c 810]
def t_rhas_3 : List cW := [
 ⟨.call 32, [rq 0, rq 2], (.val (vp (.int .i64 (-1))))⟩,
 ⟨.call 32, [rq 2, rq 1], (.val (vp (.int .i64 1)))⟩]
noncomputable def cl_rhas_4 (a : Rat) (b : Rat) (c : Rat) : List Cl := [
 cN a 810,
 cN b 810,
 cN c 810]
def t_rhas_4 : List cW := [
 ⟨.call 32, [rq 0, rq 2], (.val (vp (.int .i64 0)))⟩,
 ⟨.call 32, [rq 2, rq 1], (.val (vp (.int .i64 (-1))))⟩]
noncomputable def cl_rhas_5 (a : Rat) (b : Rat) (c : Rat) : List Cl := [
 cN a 810,
 cN b 810,
 cN c 810]
def t_rhas_5 : List cW := [
 ⟨.call 32, [rq 0, rq 2], (.val (vp (.int .i64 0)))⟩,
 ⟨.call 32, [rq 2, rq 1], (.val (vp (.int .i64 0)))⟩]
noncomputable def cl_rhas_6 (a : Rat) (b : Rat) (c : Rat) : List Cl := [
 cN a 810,
 cN b 810,
 cN c 810]
def t_rhas_6 : List cW := [
 ⟨.call 32, [rq 0, rq 2], (.val (vp (.int .i64 0)))⟩,
 ⟨.call 32, [rq 2, rq 1], (.val (vp (.int .i64 1)))⟩]
noncomputable def cl_rhas_7 (a : Rat) (b : Rat) (c : Rat) : List Cl := [
 cN a 810,
 cN b 810,
 cN c 810]
def t_rhas_7 : List cW := [
 ⟨.call 32, [rq 0, rq 2], (.val (vp (.int .i64 1)))⟩]
set_option maxRecDepth 100000 in
theorem rhas_ok (v0 : Value) (v1 : Value) (a b c : Rat) (w : World) (q0 : RSp w v0 a b) (q1 : RQ w v1 c) (za : cB a 810) (zb : cB b 810) (zc : cB c 810)  :
 Calls Tryz.prog 57 #[v0, v1] w (Go.Proofs.YtccabfblgjcboaaGreatDoor.Val w (.bool (hasR a b c))) := by
 rcases cmp3 a c with h1 | h1 | h1
 · skip
   rcases cmp3 c b with h2 | h2 | h2
   · skip
     have hC : (mkC [3, 3, 3] [true, true, true] [33, 68] 17 (cl_rhas_1 a b c) w).Ok := cL (cb (co (by decide) _ _) <| cb (co (by decide) _ _) <| cb (co (by decide) _ _) <| cD) rfl rfl
     have hT : ∀ t ∈ t_rhas_1, t.Valid (mkC [3, 3, 3] [true, true, true] [33, 68] 17 (cl_rhas_1 a b c) w) :=
      ca (e_rcmp (pr rfl) (pr rfl) rfl h1) <|
      ca (e_rcmp (pr rfl) (pr rfl) rfl h2) <|
      ce
     refine Calls.mono (cM hC hT 57 Tryz.f57 [rsp 0 1, rq 2] (.val (vp (.bool true))) 200 Tryz.func57 rfl rfl rfl (by kernel_rfl) [v0, v1] ⟨v0, _, rfl, (ju rfl rfl).2 ⟨q0, za, zb⟩, ⟨v1, _, rfl, (ji rfl).2 ⟨q1, zc⟩, rfl⟩⟩) ?_
     rintro e w' ⟨v, rfl, hv, hb⟩; rw [val_of hv]; refine ⟨?_, hb⟩; rw [cmp_has h1 h2]; rfl
   · skip
     have hC : (mkC [3, 3, 3] [true, true, true] [33, 68] 17 (cl_rhas_2 a b c) w).Ok := cL (cb (co (by decide) _ _) <| cb (co (by decide) _ _) <| cb (co (by decide) _ _) <| cD) rfl rfl
     have hT : ∀ t ∈ t_rhas_2, t.Valid (mkC [3, 3, 3] [true, true, true] [33, 68] 17 (cl_rhas_2 a b c) w) :=
      ca (e_rcmp (pr rfl) (pr rfl) rfl h1) <|
      ca (e_rcmp (pr rfl) (pr rfl) rfl h2) <|
      ce
     refine Calls.mono (cM hC hT 57 Tryz.f57 [rsp 0 1, rq 2] (.val (vp (.bool true))) 200 Tryz.func57 rfl rfl rfl (by kernel_rfl) [v0, v1] ⟨v0, _, rfl, (ju rfl rfl).2 ⟨q0, za, zb⟩, ⟨v1, _, rfl, (ji rfl).2 ⟨q1, zc⟩, rfl⟩⟩) ?_
     rintro e w' ⟨v, rfl, hv, hb⟩; rw [val_of hv]; refine ⟨?_, hb⟩; rw [cmp_has h1 h2]; rfl
   · skip
     have hC : (mkC [3, 3, 3] [true, true, true] [33, 68] 17 (cl_rhas_3 a b c) w).Ok := cL (cb (co (by decide) _ _) <| cb (co (by decide) _ _) <| cb (co (by decide) _ _) <| cD) rfl rfl
     have hT : ∀ t ∈ t_rhas_3, t.Valid (mkC [3, 3, 3] [true, true, true] [33, 68] 17 (cl_rhas_3 a b c) w) :=
      ca (e_rcmp (pr rfl) (pr rfl) rfl h1) <|
      ca (e_rcmp (pr rfl) (pr rfl) rfl h2) <|
      ce
     refine Calls.mono (cM hC hT 57 Tryz.f57 [rsp 0 1, rq 2] (.val (vp (.bool false))) 200 Tryz.func57 rfl rfl rfl (by kernel_rfl) [v0, v1] ⟨v0, _, rfl, (ju rfl rfl).2 ⟨q0, za, zb⟩, ⟨v1, _, rfl, (ji rfl).2 ⟨q1, zc⟩, rfl⟩⟩) ?_
     rintro e w' ⟨v, rfl, hv, hb⟩; rw [val_of hv]; refine ⟨?_, hb⟩; rw [cmp_has h1 h2]; rfl
 · skip
   rcases cmp3 c b with h2 | h2 | h2
   · skip
     have hC : (mkC [3, 3, 3] [true, true, true] [33, 68] 17 (cl_rhas_4 a b c) w).Ok := cL (cb (co (by decide) _ _) <| cb (co (by decide) _ _) <| cb (co (by decide) _ _) <| cD) rfl rfl
     have hT : ∀ t ∈ t_rhas_4, t.Valid (mkC [3, 3, 3] [true, true, true] [33, 68] 17 (cl_rhas_4 a b c) w) :=
      ca (e_rcmp (pr rfl) (pr rfl) rfl h1) <|
      ca (e_rcmp (pr rfl) (pr rfl) rfl h2) <|
      ce
     refine Calls.mono (cM hC hT 57 Tryz.f57 [rsp 0 1, rq 2] (.val (vp (.bool true))) 200 Tryz.func57 rfl rfl rfl (by kernel_rfl) [v0, v1] ⟨v0, _, rfl, (ju rfl rfl).2 ⟨q0, za, zb⟩, ⟨v1, _, rfl, (ji rfl).2 ⟨q1, zc⟩, rfl⟩⟩) ?_
     rintro e w' ⟨v, rfl, hv, hb⟩; rw [val_of hv]; refine ⟨?_, hb⟩; rw [cmp_has h1 h2]; rfl
   · skip
     have hC : (mkC [3, 3, 3] [true, true, true] [33, 68] 17 (cl_rhas_5 a b c) w).Ok := cL (cb (co (by decide) _ _) <| cb (co (by decide) _ _) <| cb (co (by decide) _ _) <| cD) rfl rfl
     have hT : ∀ t ∈ t_rhas_5, t.Valid (mkC [3, 3, 3] [true, true, true] [33, 68] 17 (cl_rhas_5 a b c) w) :=
      ca (e_rcmp (pr rfl) (pr rfl) rfl h1) <|
      ca (e_rcmp (pr rfl) (pr rfl) rfl h2) <|
      ce
     refine Calls.mono (cM hC hT 57 Tryz.f57 [rsp 0 1, rq 2] (.val (vp (.bool true))) 200 Tryz.func57 rfl rfl rfl (by kernel_rfl) [v0, v1] ⟨v0, _, rfl, (ju rfl rfl).2 ⟨q0, za, zb⟩, ⟨v1, _, rfl, (ji rfl).2 ⟨q1, zc⟩, rfl⟩⟩) ?_
     rintro e w' ⟨v, rfl, hv, hb⟩; rw [val_of hv]; refine ⟨?_, hb⟩; rw [cmp_has h1 h2]; rfl
   · skip
     have hC : (mkC [3, 3, 3] [true, true, true] [33, 68] 17 (cl_rhas_6 a b c) w).Ok := cL (cb (co (by decide) _ _) <| cb (co (by decide) _ _) <| cb (co (by decide) _ _) <| cD) rfl rfl
     have hT : ∀ t ∈ t_rhas_6, t.Valid (mkC [3, 3, 3] [true, true, true] [33, 68] 17 (cl_rhas_6 a b c) w) :=
      ca (e_rcmp (pr rfl) (pr rfl) rfl h1) <|
      ca (e_rcmp (pr rfl) (pr rfl) rfl h2) <|
      ce
     refine Calls.mono (cM hC hT 57 Tryz.f57 [rsp 0 1, rq 2] (.val (vp (.bool false))) 200 Tryz.func57 rfl rfl rfl (by kernel_rfl) [v0, v1] ⟨v0, _, rfl, (ju rfl rfl).2 ⟨q0, za, zb⟩, ⟨v1, _, rfl, (ji rfl).2 ⟨q1, zc⟩, rfl⟩⟩) ?_
     rintro e w' ⟨v, rfl, hv, hb⟩; rw [val_of hv]; refine ⟨?_, hb⟩; rw [cmp_has h1 h2]; rfl
 · skip
   have hC : (mkC [3, 3, 3] [true, true, true] [33, 68] 17 (cl_rhas_7 a b c) w).Ok := cL (cb (co (by decide) _ _) <| cb (co (by decide) _ _) <| cb (co (by decide) _ _) <| cD) rfl rfl
   have hT : ∀ t ∈ t_rhas_7, t.Valid (mkC [3, 3, 3] [true, true, true] [33, 68] 17 (cl_rhas_7 a b c) w) :=
    ca (e_rcmp (pr rfl) (pr rfl) rfl h1) <|
    ce
   refine Calls.mono (cM hC hT 57 Tryz.f57 [rsp 0 1, rq 2] (.val (vp (.bool false))) 200 Tryz.func57 rfl rfl rfl (by kernel_rfl) [v0, v1] ⟨v0, _, rfl, (ju rfl rfl).2 ⟨q0, za, zb⟩, ⟨v1, _, rfl, (ji rfl).2 ⟨q1, zc⟩, rfl⟩⟩) ?_
   rintro e w' ⟨v, rfl, hv, hb⟩; rw [val_of hv]; refine ⟨?_, hb⟩; rw [first_has h1]
theorem e_rhas {csz : List Nat} {numc : List Bool} {okT : List Nat} {nt : Nat} {cl : List Cl} {w0 : World} {p1 p2 : jQ} {k1 k2 k3 : Nat} {a b c : Rat}  (h1 : PRS csz numc okT nt cl w0 p1 a k1 b k2) (h2 : PR csz numc okT nt cl w0 p2 c k3) (fk1 : fitr k1 810 = true) (fk2 : fitr k2 810 = true) (fk3 : fitr k3 810 = true) {x : Bool} (hx : hasR a b c = x)  : V csz numc okT nt cl w0 (.call 57) [p1, p2] (.val (vp (.bool x))) := by
 refine ⟨enters_of Tryz.func57 (by kernel_rfl) rfl, fun w vs hb hvs => ?_⟩
 obtain ⟨u1, _, rfl, j1, ⟨u2, _, rfl, j2, rfl⟩⟩ := hvs
 have i1 := h1 _ _ j1
 have i2 := h2 _ _ j2
 refine (rhas_ok u1 u2 _ _ _ w i1.1 i2.1 (i1.2.1.le (jr fk1).1) (i1.2.2.le (jr fk2).1) (i2.2.le (jr fk3).1) ).mono ?_
 subst hx
 rintro e w' ⟨rfl, hb'⟩
 exact ⟨_, rfl, vp_r _ _ _, hb'⟩
noncomputable def cl_rquad0_1 (a : Rat) (b : Rat) (c : Rat) (d : Rat) (e : Rat) : List Cl := [
 cN a 400,
 cN b 400,
 cN c 400,
 cN d 400,
 cN e 400,
 cN (((a * (d * d)) + (b * d)) + c) 4862,
 cN (((a * (e * e)) + (b * e)) + c) 4862,
 cN (lowR (((a * (d * d)) + (b * d)) + c) [((a * (e * e)) + (b * e)) + c]) 4862,
 cN (jT (((a * (d * d)) + (b * d)) + c) [((a * (e * e)) + (b * e)) + c]) 4862]
def t_rquad0_1 : List cW := [
 ⟨.call 113, [rq 0, rq 1, rq 2, rq 3], (.val (rq 5))⟩,
 ⟨.call 113, [rq 0, rq 1, rq 2, rq 4], (.val (rq 6))⟩,
 ⟨.call 35, [rq 0], (.val (vp (.bool true)))⟩,
 ⟨.call 104, [.slc 33 2 [.cls 5 3, .cls 6 3]], (.val (rsp 7 8))⟩]
set_option maxRecDepth 100000 in
theorem rquad0_ok (v0 : Value) (v1 : Value) (v2 : Value) (v3 : Value) (a b c d e : Rat) (w : World) (q0 : RQ w v0 a) (q1 : RQ w v1 b) (q2 : RQ w v2 c) (q3 : RSp w v3 d e) (za : cB a 400) (zb : cB b 400) (zc : cB c 400) (zd : cB d 400) (ze : cB e 400) (hz : decide (a = 0) = true) :
 Calls Tryz.prog 71 #[v0, v1, v2, v3] w (fun en w' => ∃ v, en = .returned v ∧ RSp w' v (lowR (((a * (d * d)) + (b * d)) + c) [((a * (e * e)) + (b * e)) + c]) (jT (((a * (d * d)) + (b * d)) + c) [((a * (e * e)) + (b * e)) + c]) ∧ cB (lowR (((a * (d * d)) + (b * d)) + c) [((a * (e * e)) + (b * e)) + c]) 4862 ∧ cB (jT (((a * (d * d)) + (b * d)) + c) [((a * (e * e)) + (b * e)) + c]) 4862 ∧ Below w.heap.size w w') := by
 have hC : (mkC [3, 3, 3, 3, 3, 3, 3, 3, 3] [true, true, true, true, true, true, true, true, true] [33, 68] 46 (cl_rquad0_1 a b c d e) w).Ok := cL (cb (co (by decide) _ _) <| cb (co (by decide) _ _) <| cb (co (by decide) _ _) <| cb (co (by decide) _ _) <| cb (co (by decide) _ _) <| cb (co (by decide) _ _) <| cb (co (by decide) _ _) <| cb (co (by decide) _ _) <| cb (co (by decide) _ _) <| cD) rfl rfl
 have hT : ∀ t ∈ t_rquad0_1, t.Valid (mkC [3, 3, 3, 3, 3, 3, 3, 3, 3] [true, true, true, true, true, true, true, true, true] [33, 68] 46 (cl_rquad0_1 a b c d e) w) :=
  ca (e_rvalue (pr rfl) (pr rfl) (pr rfl) (pr rfl) rfl rfl rfl rfl rfl) <|
  ca (e_rvalue (pr rfl) (pr rfl) (pr rfl) (pr rfl) rfl rfl rfl rfl rfl) <|
  ca (e_riszero (pr rfl) hz) <|
  ca (e_ends (plS (rs := [((a * (d * d)) + (b * d)) + c, ((a * (e * e)) + (b * e)) + c]) (k := 4862) ⟨_, _, _, _, rfl, rfl, rfl, by decide, ⟨_, _, _, _, rfl, rfl, rfl, by decide, rfl⟩⟩ rfl) rfl rfl rfl rfl rfl rfl) <|
  ce
 refine Calls.mono (cM hC hT 71 Tryz.f71 [rq 0, rq 1, rq 2, rsp 3 4] (.val (rsp 7 8)) 200 Tryz.func71 rfl rfl rfl (by kernel_rfl) [v0, v1, v2, v3] ⟨v0, _, rfl, (ji rfl).2 ⟨q0, za⟩, ⟨v1, _, rfl, (ji rfl).2 ⟨q1, zb⟩, ⟨v2, _, rfl, (ji rfl).2 ⟨q2, zc⟩, ⟨v3, _, rfl, (ju rfl rfl).2 ⟨q3, zd, ze⟩, rfl⟩⟩⟩⟩) ?_
 rintro e w' ⟨v, rfl, hv, hb⟩; obtain ⟨h1, h2, h3⟩ := (ju rfl rfl).1 hv; exact ⟨v, rfl, h1, h2, h3, hb⟩
noncomputable def cl_rquadt_1 (a : Rat) (b : Rat) (c : Rat) (d : Rat) (e : Rat) : List Cl := [
 cN a 400,
 cN b 400,
 cN c 400,
 cN d 400,
 cN e 400,
 cN (((a * (d * d)) + (b * d)) + c) 4862,
 cN (((a * (e * e)) + (b * e)) + c) 4862,
 cN (-(b)) 400,
 cN ((2 : Int) : Rat) 1,
 cN (((2 : Int) : Rat) * a) 401,
 cN ((-(b)) / (((2 : Int) : Rat) * a)) 801,
 cN (((a * (((-(b)) / (((2 : Int) : Rat) * a)) * ((-(b)) / (((2 : Int) : Rat) * a)))) + (b * ((-(b)) / (((2 : Int) : Rat) * a)))) + c) 4862,
 clL [((a * (d * d)) + (b * d)) + c, ((a * (e * e)) + (b * e)) + c, ((a * (((-(b)) / (((2 : Int) : Rat) * a)) * ((-(b)) / (((2 : Int) : Rat) * a)))) + (b * ((-(b)) / (((2 : Int) : Rat) * a)))) + c] 4862,
 cN (lowR (((a * (d * d)) + (b * d)) + c) [((a * (e * e)) + (b * e)) + c, ((a * (((-(b)) / (((2 : Int) : Rat) * a)) * ((-(b)) / (((2 : Int) : Rat) * a)))) + (b * ((-(b)) / (((2 : Int) : Rat) * a)))) + c]) 4862,
 cN (jT (((a * (d * d)) + (b * d)) + c) [((a * (e * e)) + (b * e)) + c, ((a * (((-(b)) / (((2 : Int) : Rat) * a)) * ((-(b)) / (((2 : Int) : Rat) * a)))) + (b * ((-(b)) / (((2 : Int) : Rat) * a)))) + c]) 4862]
def t_rquadt_1 : List cW := [
 ⟨.call 113, [rq 0, rq 1, rq 2, rq 3], (.val (rq 5))⟩,
 ⟨.call 113, [rq 0, rq 1, rq 2, rq 4], (.val (rq 6))⟩,
 ⟨.call 35, [rq 0], (.val (vp (.bool false)))⟩,
 ⟨.call 38, [rq 1], (.val (rq 7))⟩,
 ⟨.call 16, [vp (.int .i64 2)], (.val (rq 8))⟩,
 ⟨.call 30, [rq 8, rq 0], (.val (rq 9))⟩,
 ⟨.call 36, [rq 7, rq 9], (.val (rq 10))⟩,
 ⟨.call 57, [rsp 3 4, rq 10], (.val (vp (.bool true)))⟩,
 ⟨.call 113, [rq 0, rq 1, rq 2, rq 10], (.val (rq 11))⟩,
 ⟨.blt .append [92, 92] 92, [.slc 33 2 [.cls 5 3, .cls 6 3], .slc 33 1 [.cls 11 3]], (.val (op 12))⟩,
 ⟨.call 104, [op 12], (.val (rsp 13 14))⟩]
set_option maxRecDepth 100000 in
theorem rquadt_ok (v0 : Value) (v1 : Value) (v2 : Value) (v3 : Value) (a b c d e : Rat) (w : World) (q0 : RQ w v0 a) (q1 : RQ w v1 b) (q2 : RQ w v2 c) (q3 : RSp w v3 d e) (za : cB a 400) (zb : cB b 400) (zc : cB c 400) (zd : cB d 400) (ze : cB e 400) (hz : decide (a = 0) = false) (hd2 : decide ((((2 : Int) : Rat) * a).num = 0) = false) (hx : hasR d e ((-(b)) / (((2 : Int) : Rat) * a)) = true) :
 Calls Tryz.prog 71 #[v0, v1, v2, v3] w (fun en w' => ∃ v, en = .returned v ∧ RSp w' v (lowR (((a * (d * d)) + (b * d)) + c) [((a * (e * e)) + (b * e)) + c, ((a * (((-(b)) / (((2 : Int) : Rat) * a)) * ((-(b)) / (((2 : Int) : Rat) * a)))) + (b * ((-(b)) / (((2 : Int) : Rat) * a)))) + c]) (jT (((a * (d * d)) + (b * d)) + c) [((a * (e * e)) + (b * e)) + c, ((a * (((-(b)) / (((2 : Int) : Rat) * a)) * ((-(b)) / (((2 : Int) : Rat) * a)))) + (b * ((-(b)) / (((2 : Int) : Rat) * a)))) + c]) ∧ cB (lowR (((a * (d * d)) + (b * d)) + c) [((a * (e * e)) + (b * e)) + c, ((a * (((-(b)) / (((2 : Int) : Rat) * a)) * ((-(b)) / (((2 : Int) : Rat) * a)))) + (b * ((-(b)) / (((2 : Int) : Rat) * a)))) + c]) 4862 ∧ cB (jT (((a * (d * d)) + (b * d)) + c) [((a * (e * e)) + (b * e)) + c, ((a * (((-(b)) / (((2 : Int) : Rat) * a)) * ((-(b)) / (((2 : Int) : Rat) * a)))) + (b * ((-(b)) / (((2 : Int) : Rat) * a)))) + c]) 4862 ∧ Below w.heap.size w w') := by
 have hC : (mkC [3, 3, 3, 3, 3, 3, 3, 3, 3, 3, 3, 3, 1, 3, 3] [true, true, true, true, true, true, true, true, true, true, true, true, false, true, true] [33, 68] 46 (cl_rquadt_1 a b c d e) w).Ok := cL (cb (co (by decide) _ _) <| cb (co (by decide) _ _) <| cb (co (by decide) _ _) <| cb (co (by decide) _ _) <| cb (co (by decide) _ _) <| cb (co (by decide) _ _) <| cb (co (by decide) _ _) <| cb (co (by decide) _ _) <| cb (co (by decide) _ _) <| cb (co (by decide) _ _) <| cb (co (by decide) _ _) <| cb (co (by decide) _ _) <| cb (clL_ok (by decide) _ _ rfl) <| cb (co (by decide) _ _) <| cb (co (by decide) _ _) <| cD) rfl rfl
 have hT : ∀ t ∈ t_rquadt_1, t.Valid (mkC [3, 3, 3, 3, 3, 3, 3, 3, 3, 3, 3, 3, 1, 3, 3] [true, true, true, true, true, true, true, true, true, true, true, true, false, true, true] [33, 68] 46 (cl_rquadt_1 a b c d e) w) :=
  ca (e_rvalue (pr rfl) (pr rfl) (pr rfl) (pr rfl) rfl rfl rfl rfl rfl) <|
  ca (e_rvalue (pr rfl) (pr rfl) (pr rfl) (pr rfl) rfl rfl rfl rfl rfl) <|
  ca (e_riszero (pr rfl) hz) <|
  ca (e_rneg (pr rfl) rfl rfl) <|
  ca (e_rint (by decide) (by decide) rfl rfl) <|
  ca (e_rmul (pr rfl) (pr rfl) rfl rfl) <|
  ca (e_rdiv (of_decide_eq_false hd2) (pr rfl) (pr rfl) rfl rfl) <|
  ca (e_rhas (prs rfl rfl) (pr rfl) rfl rfl rfl hx) <|
  ca (e_rvalue (pr rfl) (pr rfl) (pr rfl) (pr rfl) rfl rfl rfl rfl rfl) <|
  ca (e_app (rs := [((a * (d * d)) + (b * d)) + c, ((a * (e * e)) + (b * e)) + c]) (k := 4862) ⟨_, _, _, _, rfl, rfl, rfl, by decide, ⟨_, _, _, _, rfl, rfl, rfl, by decide, rfl⟩⟩ rfl rfl rfl (by decide) rfl) <|
  ca (e_ends (plC rfl) rfl rfl rfl rfl rfl rfl) <|
  ce
 refine Calls.mono (cM hC hT 71 Tryz.f71 [rq 0, rq 1, rq 2, rsp 3 4] (.val (rsp 13 14)) 200 Tryz.func71 rfl rfl rfl (by kernel_rfl) [v0, v1, v2, v3] ⟨v0, _, rfl, (ji rfl).2 ⟨q0, za⟩, ⟨v1, _, rfl, (ji rfl).2 ⟨q1, zb⟩, ⟨v2, _, rfl, (ji rfl).2 ⟨q2, zc⟩, ⟨v3, _, rfl, (ju rfl rfl).2 ⟨q3, zd, ze⟩, rfl⟩⟩⟩⟩) ?_
 rintro e w' ⟨v, rfl, hv, hb⟩; obtain ⟨h1, h2, h3⟩ := (ju rfl rfl).1 hv; exact ⟨v, rfl, h1, h2, h3, hb⟩
noncomputable def cl_rquadn_1 (a : Rat) (b : Rat) (c : Rat) (d : Rat) (e : Rat) : List Cl := [
 cN a 400,
 cN b 400,
 cN c 400,
 cN d 400,
 cN e 400,
 cN (((a * (d * d)) + (b * d)) + c) 4862,
 cN (((a * (e * e)) + (b * e)) + c) 4862,
 cN (-(b)) 400,
 cN ((2 : Int) : Rat) 1,
 cN (((2 : Int) : Rat) * a) 401,
 cN ((-(b)) / (((2 : Int) : Rat) * a)) 801,
 cN (lowR (((a * (d * d)) + (b * d)) + c) [((a * (e * e)) + (b * e)) + c]) 4862,
 cN (jT (((a * (d * d)) + (b * d)) + c) [((a * (e * e)) + (b * e)) + c]) 4862]
def t_rquadn_1 : List cW := [
 ⟨.call 113, [rq 0, rq 1, rq 2, rq 3], (.val (rq 5))⟩,
 ⟨.call 113, [rq 0, rq 1, rq 2, rq 4], (.val (rq 6))⟩,
 ⟨.call 35, [rq 0], (.val (vp (.bool false)))⟩,
 ⟨.call 38, [rq 1], (.val (rq 7))⟩,
 ⟨.call 16, [vp (.int .i64 2)], (.val (rq 8))⟩,
 ⟨.call 30, [rq 8, rq 0], (.val (rq 9))⟩,
 ⟨.call 36, [rq 7, rq 9], (.val (rq 10))⟩,
 ⟨.call 57, [rsp 3 4, rq 10], (.val (vp (.bool false)))⟩,
 ⟨.call 104, [.slc 33 2 [.cls 5 3, .cls 6 3]], (.val (rsp 11 12))⟩]
set_option maxRecDepth 100000 in
theorem rquadn_ok (v0 : Value) (v1 : Value) (v2 : Value) (v3 : Value) (a b c d e : Rat) (w : World) (q0 : RQ w v0 a) (q1 : RQ w v1 b) (q2 : RQ w v2 c) (q3 : RSp w v3 d e) (za : cB a 400) (zb : cB b 400) (zc : cB c 400) (zd : cB d 400) (ze : cB e 400) (hz : decide (a = 0) = false) (hd2 : decide ((((2 : Int) : Rat) * a).num = 0) = false) (hx : hasR d e ((-(b)) / (((2 : Int) : Rat) * a)) = false) :
 Calls Tryz.prog 71 #[v0, v1, v2, v3] w (fun en w' => ∃ v, en = .returned v ∧ RSp w' v (lowR (((a * (d * d)) + (b * d)) + c) [((a * (e * e)) + (b * e)) + c]) (jT (((a * (d * d)) + (b * d)) + c) [((a * (e * e)) + (b * e)) + c]) ∧ cB (lowR (((a * (d * d)) + (b * d)) + c) [((a * (e * e)) + (b * e)) + c]) 4862 ∧ cB (jT (((a * (d * d)) + (b * d)) + c) [((a * (e * e)) + (b * e)) + c]) 4862 ∧ Below w.heap.size w w') := by
 have hC : (mkC [3, 3, 3, 3, 3, 3, 3, 3, 3, 3, 3, 3, 3] [true, true, true, true, true, true, true, true, true, true, true, true, true] [33, 68] 46 (cl_rquadn_1 a b c d e) w).Ok := cL (cb (co (by decide) _ _) <| cb (co (by decide) _ _) <| cb (co (by decide) _ _) <| cb (co (by decide) _ _) <| cb (co (by decide) _ _) <| cb (co (by decide) _ _) <| cb (co (by decide) _ _) <| cb (co (by decide) _ _) <| cb (co (by decide) _ _) <| cb (co (by decide) _ _) <| cb (co (by decide) _ _) <| cb (co (by decide) _ _) <| cb (co (by decide) _ _) <| cD) rfl rfl
 have hT : ∀ t ∈ t_rquadn_1, t.Valid (mkC [3, 3, 3, 3, 3, 3, 3, 3, 3, 3, 3, 3, 3] [true, true, true, true, true, true, true, true, true, true, true, true, true] [33, 68] 46 (cl_rquadn_1 a b c d e) w) :=
  ca (e_rvalue (pr rfl) (pr rfl) (pr rfl) (pr rfl) rfl rfl rfl rfl rfl) <|
  ca (e_rvalue (pr rfl) (pr rfl) (pr rfl) (pr rfl) rfl rfl rfl rfl rfl) <|
  ca (e_riszero (pr rfl) hz) <|
  ca (e_rneg (pr rfl) rfl rfl) <|
  ca (e_rint (by decide) (by decide) rfl rfl) <|
  ca (e_rmul (pr rfl) (pr rfl) rfl rfl) <|
  ca (e_rdiv (of_decide_eq_false hd2) (pr rfl) (pr rfl) rfl rfl) <|
  ca (e_rhas (prs rfl rfl) (pr rfl) rfl rfl rfl hx) <|
  ca (e_ends (plS (rs := [((a * (d * d)) + (b * d)) + c, ((a * (e * e)) + (b * e)) + c]) (k := 4862) ⟨_, _, _, _, rfl, rfl, rfl, by decide, ⟨_, _, _, _, rfl, rfl, rfl, by decide, rfl⟩⟩ rfl) rfl rfl rfl rfl rfl rfl) <|
  ce
 refine Calls.mono (cM hC hT 71 Tryz.f71 [rq 0, rq 1, rq 2, rsp 3 4] (.val (rsp 11 12)) 200 Tryz.func71 rfl rfl rfl (by kernel_rfl) [v0, v1, v2, v3] ⟨v0, _, rfl, (ji rfl).2 ⟨q0, za⟩, ⟨v1, _, rfl, (ji rfl).2 ⟨q1, zb⟩, ⟨v2, _, rfl, (ji rfl).2 ⟨q2, zc⟩, ⟨v3, _, rfl, (ju rfl rfl).2 ⟨q3, zd, ze⟩, rfl⟩⟩⟩⟩) ?_
 rintro e w' ⟨v, rfl, hv, hb⟩; obtain ⟨h1, h2, h3⟩ := (ju rfl rfl).1 hv; exact ⟨v, rfl, h1, h2, h3, hb⟩
end Sym
end Go.Proofs.YtccabfblgjcboaaGreatDoor
