/- Package exact: ListsP LawForms FrameSl LawForms2 ListsO. -/
import Derived.Test.YtccabfblgjcboaaGreatDoorF24
import Derived.Test.YtccabfblgjcboaaGreatDoorF31
import Derived.Test.YtccabfblgjcboaaGreatDoorF28
import Derived.Test.YtccabfblgjcboaaGreatDoorF1
import Derived.SliceStrings
import Derived.Deep.Slices
set_option linter.all false

namespace Go.Proofs.YtccabfblgjcboaaGreatDoor
open Go Go.RowKit Go.Proofs Lim
namespace Sym
section
variable {csz : List Nat} {numc : List Bool} {okT : List Nat} {nt : Nat} {cl : List Cl} {w0 : World} {w : World} {c i j : Nat} {es : List (List Cl)} {e : List Cl}
theorem first_of {n : Nat} {cs : List Value} (hn : 0 < n) (he : ∀ x ∈ e, x.St) (h : ElIs w e ((cs.drop (0 * n)).take n)) : ∀ x, cs[0]? = some x → noSl x = true := by
 intro x hx
 refine h.first he x ?_
 rw [Nat.zero_mul, List.drop_zero, List.getElem?_take, if_pos hn]
 exact hx
theorem e_push {t n T bytes : Nat} {z z0 : Value} {gs : List Grp} (hu : Tryz.prog.underlying T = some (.slice t)) (hi : (Tryz.prog.info? t).map (fun i => (i.zero, i.size, i.bytes)) = some (some z0, n, bytes)) (hz0 : z0.cells.size = n) (hn : 0 < n) (hby : bytes ≤ 1000) (ht : sepT t)
 (hl : es.length < 1000000) (he : ∀ x ∈ e, x.St) (hen : elN e = n) (hci : cl[i]? = some (clO w0.heap.size t n z es (fun w vs => ElIs w e vs))) (hr : Res cl gs e) (hcj : cl[j]? = some (clN w0.heap.size t n (es ++ [e]))) :
 V csz numc okT nt cl w0 (.blt .append [T, T] T) [op i, .slc t 1 gs] (.val (op j)) := by
 intro w ρ oo xs ho hb hvs
 obtain ⟨c, hop, hc, hat, hty, rfl⟩ := hd_blt ho
 obtain ⟨v1, _, e1, h4, v2, _, e2, ⟨b, vs, rfl, hvb, hg⟩, e3⟩ := hvs
 subst e2
 subst e3
 obtain ⟨rfl, hown⟩ := (jn hci).1 h4
 have hv := are_res hr hg
 have hvl : vs.length = n := hv.length.trans hen
 have hv1 := hv.one he
 obtain ⟨inf, hinf, hp⟩ := Option.map_eq_some_iff.1 hi
 simp only [Prod.mk.injEq] at hp
 obtain ⟨q1, q2, q3⟩ := hp
 have hnews : ∀ k u, vs[k]? = some u → w.cell? ((⟨b, 0, none⟩ : Addr).add k) = some u := fun k u hk => by rw [jo]; simpa [World.cell?, hvb] using hk
 have hown0 := hown
 obtain ⟨hs, hnb, cs, hrow, hel⟩ := hown
 have hml : es.length + 1 ≤ maxLen := by simp only [maxLen]; omega
 have hbb : (es.length + 1) * bytes ≤ 140737488355328 := Nat.le_trans (Nat.mul_le_mul (show es.length + 1 ≤ 1000000 by omega) hby) (by decide)
 obtain ⟨v', w', hrun, hrow', hgr, _⟩ := run_append_own (P := Tryz.prog) w w0.heap.size T T t inf z0 n bytes hu hinf q1 q2 q3 hz0 hn v1 es.length cs hrow ⟨b, 0, none⟩ 1 1 vs (by rw [hvl, Nat.one_mul]) hnews hv1 hml hbb hb.size
 have hex : (execOp ρ oo).run Tryz.prog w = .ok (.value v') w' := by
  have he : c.args.map ρ = #[v1, Value.slice (some ⟨b, 0, none⟩) 1 1] := by
   apply Array.ext'
   simpa using e1
  simp only [execOp, hop, resolve, hc, he, Sem.run_bind, Sem.run_pure, Result.andThen_ok, invoke, builtin, hat, hty, hrun]
 have hlen : cs.length = es.length * n := hrow.1
 have hstep : (Below w.heap.size w w') ∨ (∃ g cur, v1.ownBlock = some g ∧ w.heap[g]? = some (.cells cur t (0, 0)) ∧ es.length * n + n ≤ cur.size ∧ w'.heap[g]? = some (.cells (cur.toList.take (es.length * n) ++ vs ++ cur.toList.drop (es.length * n + n)).toArray t (0, 0)) ∧ jb g w w') := by
  rcases hrow.2 with ⟨rfl, h0⟩ | ⟨g, cap, cur, rfl, hbg, hgc, hnc, hcm, hcs, htake⟩
  · have := run_append_nil (P := Tryz.prog) w T T t inf z0 hu hinf q1 ⟨b, 0, none⟩ 1 1 vs (by rw [q2, hvl, Nat.one_mul]) hnews (by omega) (by omega) (by rw [q3]; omega)
    rw [this] at hrun
    injection hrun with r1 r2
    left
    rw [← r2]
    exact (Below.refl _ w).drew.alloc (Nat.le_refl _) _
  · by_cases hroom : es.length + 1 ≤ cap
    · have hfit : es.length * n + n ≤ cur.size := by rw [hcs, show es.length * n + n = (es.length + 1) * n by rw [Nat.add_mul, Nat.one_mul]]; exact Nat.mul_le_mul_right _ hroom
      have := run_append_room (P := Tryz.prog) w T T t inf hu hinf g es.length cap cur hgc ⟨b, 0, none⟩ 1 1 vs (by rw [q2, hvl, Nat.one_mul]) hnews hv1 hroom (by rw [q2, hvl]; exact hfit)
      rw [this] at hrun
      injection hrun with r1 r2
      rw [q2, hvl] at r2
      right
      refine ⟨g, cur, rfl, hgc, hfit, ?_, ?_⟩
      · rw [← r2]; exact setRow_heap w g cur _ t _ hgc
      · rw [← r2]
        exact ⟨rfl, rfl, rfl, by simp, fun k hk => setRow_other w g k _ hk⟩
    · have := run_append_grow (P := Tryz.prog) w T T t inf z0 hu hinf q1 ⟨g, 0, none⟩ es.length cap cs (by rw [q2]; exact hlen) (hrow.cells (g := g) rfl) ⟨b, 0, none⟩ 1 1 vs (by rw [q2, hvl, Nat.one_mul]) hnews (by omega) (by omega) (growslice_fits (by omega) (by rw [q3]; exact hbb))
      rw [this] at hrun
      injection hrun with r1 r2
      left
      rw [← r2]
      exact (Below.refl _ w).drew.alloc (Nat.le_refl _) _
 have hmono : ∀ x : Cl, x.St → ∀ f, x.p w f → x.p w' f := by
  intro x hx f hp
  rcases hstep with h | ⟨g, cur, g1, g2, _, _, g5⟩
  · exact hx.below w w' f h hp
  · exact hx.only g w w' f cur t g2 ht (hnb g g1 cur g2) g5 hp
 have hel' : ∀ i e', es[i]? = some e' → ElIs w' e' ((cs.drop (i * n)).take n) := fun i e' hi => (hel i e' hi).mono (fun x hx f hp => hmono x (hs e' (List.mem_of_getElem? hi) x hx) f hp)
 have hve : ElIs w' e vs := hv.mono (fun x hx f hp => hmono x (he x hx) f hp)
 have hs' : ∀ e' ∈ es ++ [e], ∀ x ∈ e', x.St := fun e' h' x hx => by
  rcases List.mem_append.1 h' with h | h
  · exact hs e' h x hx
  · have : e' = e := by simpa using h
    subst this; exact he x hx
 have hels := els_snoc hlen hvl hel' hve
 refine ⟨v', w', hex, (op_isN hcj).2 ⟨hs', ?_, cs ++ vs, by simpa using hrow', hels⟩, ?_⟩
 · intro g hg cur hgc x hx
   obtain ⟨e0, he0⟩ : ∃ e0, (es ++ [e])[0]? = some e0 := ⟨(es ++ [e])[0]'(by simp), List.getElem?_eq_getElem _⟩
   have h0 := hels 0 e0 he0
   refine first_of hn (hs' e0 (List.mem_of_getElem? he0)) h0 x ?_
   rcases hrow'.2 with ⟨rfl, h1⟩ | ⟨g', cap, cur', rfl, _, hgc', hnc, _, hsz, ht'⟩
   · exact (Nat.succ_ne_zero _ h1).elim
   · have : g' = g := by simpa [Value.ownBlock] using hg
     subst this
     have e9 : cur = cur' := (Obj.cells.inj (Option.some.inj (hgc.symm.trans hgc'))).1
     subst e9
     rw [← ht', List.getElem?_take, if_pos (Nat.mul_pos (by omega) hn)]
     simpa using hx
 · rcases hstep with h | ⟨g, cur, g1, g2, g3, g4, g5⟩
   · exact .inl h
   · refine .inr ⟨⟨g, es.length * n, n, t, fun w vs => ElIs w e vs⟩, List.mem_flatMap.2 ⟨_, List.mem_of_getElem? hci, ?_⟩, cur, vs, g2, ht, hnb g g1 cur g2, hvl, g3, hv.first he, g4, hve, g5⟩
     simp [clO, g1]
theorem e_mk0 {T t n bytes : Nat} {z0 : Value} (hu : Tryz.prog.underlying T = some (.slice t)) (hi : (Tryz.prog.info? t).map (fun i => (i.zero, i.size, i.bytes)) = some (some z0, n, bytes)) (hcj : cl[j]? = some (clN w0.heap.size t n [])) :
 V csz numc okT nt cl w0 (.bs T 0) [] (.val (op j)) := by
 intro w ρ oo xs ho hb hvs
 obtain ⟨parts, hop, hp, rfl⟩ := hd_bs ho
 have hp0 : parts = #[] := by
  have hm : (parts.toList.map (·.2)).map ρ = [] := hvs
  have : parts.toList = [] := by simpa using hm
  exact Array.eq_empty_of_size_eq_zero (by rw [← Array.length_toList, this]; rfl)
 subst hp0
 obtain ⟨inf, hinf, hq⟩ := Option.map_eq_some_iff.1 hi
 simp only [Prod.mk.injEq] at hq
 obtain ⟨q1, q2, q3⟩ := hq
 refine ⟨.slice (some ⟨w.heap.size, 0, none⟩) 0 0, w.alloc (.cells #[] t), ?_, (op_isN hcj).2 (OwnL.fresh (heap_alloc_new w _) hb.size), (Below.refl _ w).alloc (Nat.le_refl _) _⟩
 have hr : (Instr.buildSlice T 0 #[]).run Tryz.prog w = .ok (.slice (some ⟨w.heap.size, 0, none⟩) 0 0) (w.alloc (.cells #[] t)) := by
  simp [Instr.buildSlice, run_underlying hu, jP hinf, Instr.fill, newRow]
  rw [show Array.map (fun _ : Nat => (default : Value)) (Array.range 0) = #[] from Array.eq_empty_of_size_eq_zero (by rw [Array.size_map, Array.size_range])]
 show (execOp ρ oo).run Tryz.prog w = _
 unfold execOp
 simp only [hop, Array.map_empty, List.map_toArray, List.map_nil, Sem.run_bind, hr, Result.andThen_ok]
 rfl
end
end Sym
open Go Go.RowKit Go.Proofs Lim
namespace Sym
def LimOk (w0 w : World) (cl : List Cl) : Prop := ∀ x ∈ cl, ∀ g ∈ x.L, w0.heap.size ≤ g.R ∧ g.R < w.heap.size
theorem lim_rest {w0 w : World} {cl : List Cl} (h : cl.flatMap (·.L) = []) : LimOk w0 w cl := fun x hx g hg => by
 have : g ∈ cl.flatMap (·.L) := List.mem_flatMap.2 ⟨x, hx, hg⟩
 rw [h] at this
 simp at this
theorem lim_O {w0 w : World} {t n : Nat} {z : Value} {es : List (List Cl)} {ne : World → List Value → Prop} {cl : List Cl} (h : OwnL w0.heap.size t n w z es) (k : LimOk w0 w cl) : LimOk w0 w (clO w0.heap.size t n z es ne :: cl) := fun x hx g hg => by
 rcases List.mem_cons.1 hx with rfl | hx
 · simp only [clO, List.mem_map, Option.mem_toList] at hg
   obtain ⟨b, hb, rfl⟩ := hg
   exact h.lt b hb
 · exact k x hx g hg
theorem lim_at {csz : List Nat} {numc : List Bool} {okT : List Nat} {nt : Nat} {cl : List Cl} {w0 w : World} (h : LimOk w0 w cl) : ∀ k ∈ (mkC csz numc okT nt cl w0).L, (mkC csz numc okT nt cl w0).w0.heap.size ≤ k ∧ k < w.heap.size := fun k hk => by
 obtain ⟨g, hg, rfl⟩ := List.mem_map.1 (show k ∈ (cl.flatMap (·.L)).map (·.R) from hk)
 obtain ⟨x, hx, hg⟩ := List.mem_flatMap.1 hg
 exact h x hx g hg
theorem grs_nil {L : List Gw} : ∀ x ∈ ([] : List Cl), x.Grows L := fun t h => by simp at h
theorem cj {L : List Gw} {a : Cl} {l : List Cl} (h : a.Grows L) (k : ∀ t ∈ l, t.Grows L) : ∀ t ∈ a :: l, t.Grows L := fun t ht => by
 rcases List.mem_cons.1 ht with rfl | ht
 · exact h
 · exact k t ht
theorem mem_O {x : Cl} {l : List Cl} {P : Gw → Prop} (h : ∀ g ∈ x.L, P g) (k : ∀ g ∈ l.flatMap (·.L), P g) : ∀ g ∈ (x :: l).flatMap (·.L), P g := fun g hg => by
 rw [List.flatMap_cons] at hg
 exact (List.mem_append.1 hg).elim (h g) (k g)
theorem mem_R {l : List Cl} {P : Gw → Prop} (h : l.flatMap (·.L) = []) : ∀ g ∈ l.flatMap (·.L), P g := fun g hg => by rw [h] at hg; simp at hg
theorem sepS : ∀ t ∈ okS, sepT t := by unfold sepT; decide
theorem gr_Q {L : List Gw} (r : Rat) (k : Nat) : (clQ r k).Grows L := gr_st (clQ_st r k)
theorem gr_R {L : List Gw} (r : Rat) (k : Nat) : (cN r k).Grows L := gr_st (clR_st r k)
abbrev elTx (l : List UInt8) : List Cl := [jm (je l)]
abbrev elE (p : List UInt8 × List UInt8) : List Cl := [jm (je p.1), jm (je p.2)]
abbrev nOf (l : List UInt8) : Rat := (jw l).1
abbrev qT : Nat := 26
abbrev rT : Nat := 33
abbrev sT : Nat := 66
abbrev tT : Nat := 68
abbrev nxt (e : List Cl) : World → List Value → Prop := fun w vs => ElIs w e vs
abbrev cl1 (B : Nat) (v0 v1 z5 z6 : Value) (N : Nat) (rs : List Rat) (i : Nat) (l : List UInt8) (r : Rat) : List Cl := [clO B qT 4 z5 (rs.map (elQ 4)) (nxt (elQ 4 r)), clO B rT 3 z6 (rs.map (elR 4)) (nxt (elR 4 r)), clW v0, clW v1, jm (ii (i : Int)), jm (ii (N : Int)), clW (jI v0 (i * 1)), jm (je l), jm (ii (l.length : Int)), clQ r 4, cN r 4, jm (ii ((i + 1 : Nat) : Int))]
abbrev cl1N (B : Nat) (v0 v1 z5 z6 : Value) (N : Nat) (rs : List Rat) (i : Nat) (l : List UInt8) (r : Rat) : List Cl := cl1 B v0 v1 z5 z6 N rs i l r ++ [clN B qT 4 (rs.map (elQ 4) ++ [elQ 4 r]), clN B rT 3 (rs.map (elR 4) ++ [elR 4 r])]
section
variable {v0 v1 z5 z6 : Value} {N i : Nat} {rs : List Rat} {l : List UInt8} {r : Rat} {w : World}
noncomputable abbrev C1 (v0 v1 z5 z6 : Value) (N : Nat) (rs : List Rat) (i : Nat) (l : List UInt8) (r : Rat) (w : World) : Ctx := mkC [1, 1, 1, 1, 1, 1, 1, 1, 1, 4, 3, 1] [false, false, false, false, true, true, false, true, true, true, true, true] okS 211 (cl1 w.heap.size v0 v1 z5 z6 N rs i l r) w
noncomputable abbrev C1N (v0 v1 z5 z6 : Value) (N : Nat) (rs : List Rat) (i : Nat) (l : List UInt8) (r : Rat) (w : World) : Ctx := mkC [1, 1, 1, 1, 1, 1, 1, 1, 1, 4, 3, 1, 1, 1] [false, false, false, false, true, true, false, true, true, true, true, true, false, false] [] 211 (cl1N w.heap.size v0 v1 z5 z6 N rs i l r) w
theorem noN {l : List Nat} (h : l = []) : ∀ t ∈ l, sepT t := fun t ht => by rw [h] at ht; simp at ht
theorem c1_ok (h0 : v0.oneCell' = true) (h1 : v1.oneCell' = true) (h5 : z5.oneCell' = true) (h6 : z6.oneCell' = true) : (C1 v0 v1 z5 z6 N rs i l r w).Ok := by
 have hL : ∀ g ∈ (cl1 w.heap.size v0 v1 z5 z6 N rs i l r).flatMap (·.L), (g.t = qT ∧ g.m = (rs.map (elQ 4)).length * 4) ∨ (g.t = rT ∧ g.m = (rs.map (elR 4)).length * 3) :=
  mem_O (fun g hg => .inl ⟨(clO_L hg).1, (clO_L hg).2.1⟩) (mem_O (fun g hg => .inr ⟨(clO_L hg).1, (clO_L hg).2.1⟩) (mem_R rfl))
 refine cL (cb (clO_ok sepS h5) <| cb (clO_ok sepS h6) <| cb (jf h0) <| cb (jf h1) <| cb (cu _) <| cb (cu _) <| cb (jf (jy _ _)) <| cb (jD _) <| cb (cu _) <| cb (clQ_ok qrsT.1 _ _) <| cb (co qrsT.2 _ _) <| cb (cu _) cD) rfl rfl (.inr ?_)
 exact cj (gr_O (fun g hg => (hL g hg).elim (fun h => .inr h.2) (fun h => .inl (by rw [h.1]; decide)))) <| cj (gr_O (fun g hg => (hL g hg).elim (fun h => .inl (by rw [h.1]; decide)) (fun h => .inr h.2))) <| cj gr_W <| cj gr_W <| cj gr_V <| cj gr_V <| cj gr_W <| cj gr_V <| cj gr_V <| cj (gr_Q _ _) <| cj (gr_R _ _) <| cj gr_V grs_nil
theorem st_q (r : Rat) (k : Nat) : ∀ x ∈ elQ k r, x.St := st_cons (clQ_st r k) st_nil
theorem st_r (r : Rat) (k : Nat) : ∀ x ∈ elR k r, x.St := st_cons (clR_st r k) st_nil
theorem c1N_ok (h0 : v0.oneCell' = true) (h1 : v1.oneCell' = true) (h5 : z5.oneCell' = true) (h6 : z6.oneCell' = true) : (C1N v0 v1 z5 z6 N rs i l r w).Ok := by
 have hL : ∀ g ∈ (cl1N w.heap.size v0 v1 z5 z6 N rs i l r).flatMap (·.L), (g.t = qT ∧ g.m = (rs.map (elQ 4)).length * 4 ∧ g.n = 4 ∧ g.e = nxt (elQ 4 r)) ∨ (g.t = rT ∧ g.m = (rs.map (elR 4)).length * 3 ∧ g.n = 3 ∧ g.e = nxt (elR 4 r)) :=
  mem_O (fun g hg => .inl (clO_L hg)) (mem_O (fun g hg => .inr (clO_L hg)) (mem_R rfl))
 refine cL (cb (clO_ok (noN rfl) h5) <| cb (clO_ok (noN rfl) h6) <| cb (jf h0) <| cb (jf h1) <| cb (cu _) <| cb (cu _) <| cb (jf (jy _ _)) <| cb (jD _) <| cb (cu _) <| cb (clQ_ok noT _ _) <| cb (co noT _ _) <| cb (cu _) <| cb clN_ok <| cb clN_ok cD) rfl rfl (.inr ?_)
 exact cj (gr_O (fun g hg => (hL g hg).elim (fun h => .inr h.2.1) (fun h => .inl (by rw [h.1]; decide)))) <| cj (gr_O (fun g hg => (hL g hg).elim (fun h => .inl (by rw [h.1]; decide)) (fun h => .inr h.2.1))) <| cj gr_W <| cj gr_W <| cj gr_V <| cj gr_V <| cj gr_W <| cj gr_V <| cj gr_V <| cj (gr_Q _ _) <| cj (gr_R _ _) <| cj gr_V <|
  cj (gr_N (st_q r 4) (fun g hg => (hL g hg).elim (fun h => .inr h.2) (fun h => .inl (by rw [h.1]; decide)))) <| cj (gr_N (st_r r 4) (fun g hg => (hL g hg).elim (fun h => .inl (by rw [h.1]; decide)) (fun h => .inr h.2))) grs_nil
end
abbrev strsT : Nat := 89
abbrev endsT : Nat := 90
abbrev intT : Nat := 3
def t1a (b : Bool) : List cW := [⟨.blt .len [strsT] intT, [op 2], .val (op 5)⟩, ⟨.bin .lss intT, [op 4, op 5], .val (vp (.bool b))⟩]
def t1b (b : Bool) : List cW := [⟨.ix strsT, [op 2, op 4], .val (op 6)⟩, ⟨.ld 9, [op 6], .val (op 7)⟩, ⟨.blt .len [9] intT, [op 7], .val (op 8)⟩, ⟨.bin .gtr intT, [op 8, vp (ii 60)], .val (vp (.bool b))⟩, ⟨.call 10, [], .val (vp (.bool true))⟩]
def t1c : List cW := [⟨.call 24, [op 7], .tup [qp 9, rq 10]⟩]
def t1d : List cW := [⟨.blt .append [91, 91] 91, [op 0, .slc qT 1 [.cls 9 4]], .val (op 12)⟩, ⟨.blt .append [92, 92] 92, [op 1, .slc rT 1 [.cls 10 3]], .val (op 13)⟩, ⟨.bin .add intT, [op 4, vp (ii 1)], .val (op 11)⟩]
theorem und_strs : Tryz.prog.underlying strsT = some (.slice (Tryz.prog.elem strsT)) := by kernel_rfl
theorem und_ends : Tryz.prog.underlying endsT = some (.slice (Tryz.prog.elem endsT)) := by kernel_rfl
theorem siz_strs : (Tryz.prog.info? (Tryz.prog.elem strsT)).map (·.size) = some 1 := by kernel_rfl
theorem siz_ends : (Tryz.prog.info? (Tryz.prog.elem endsT)).map (·.size) = some 2 := by kernel_rfl
theorem agg_str : (Tryz.prog.underlying 9).map isAggD = some false := by kernel_rfl
theorem agg_end : (Tryz.prog.underlying 64).map isAggD = some true := by kernel_rfl
theorem siz_end : (Tryz.prog.info? 64).map (·.size) = some 2 := by kernel_rfl
theorem inf_q : (Tryz.prog.info? qT).map (fun i => (i.zero, i.size, i.bytes)) = some (some (.agg #[.bool false, .int .u64 0, .int .u64 0, .pointer none]), 4, 32) := by kernel_rfl
theorem inf_r : (Tryz.prog.info? rT).map (fun i => (i.zero, i.size, i.bytes)) = some (some (.agg #[.bool false, .slice none 0 0, .slice none 0 0]), 3, 56) := by kernel_rfl
theorem inf_s : (Tryz.prog.info? sT).map (fun i => (i.zero, i.size, i.bytes)) = some (some (.agg #[.bool false, .int .u64 0, .int .u64 0, .pointer none, .bool false, .int .u64 0, .int .u64 0, .pointer none]), 8, 64) := by kernel_rfl
theorem inf_t : (Tryz.prog.info? tT).map (fun i => (i.zero, i.size, i.bytes)) = some (some (.agg #[.bool false, .slice none 0 0, .slice none 0 0, .bool false, .slice none 0 0, .slice none 0 0]), 6, 112) := by kernel_rfl
theorem sep_q : sepT qT := by unfold sepT; decide
theorem sep_r : sepT rT := by unfold sepT; decide
theorem sep_s : sepT sT := by unfold sepT; decide
theorem sep_t : sepT tT := by unfold sepT; decide
theorem und_q' : Tryz.prog.underlying 91 = some (.slice qT) := by kernel_rfl
theorem und_r' : Tryz.prog.underlying 92 = some (.slice rT) := by kernel_rfl
theorem und_s' : Tryz.prog.underlying 93 = some (.slice sT) := by kernel_rfl
theorem und_t' : Tryz.prog.underlying 94 = some (.slice tT) := by kernel_rfl
noncomputable def b_lf : Code := bodyOf Tryz.f8
noncomputable def x1_lf : Code := cI (jG 3 b_lf)
noncomputable def l1_lf : Code := cP (cP (cq x1_lf))
structure S1 (w0 : World) (v0 v1 : Value) (rs : List Rat) (i : Nat) (z5 z6 : Value) (a : Act) (w : World) : Prop where
 below : Below w0.heap.size w0 w
 defers : a.defers = []
 size : a.tmps.size = 211
 t0 : a.tmps[0]? = some v0
 t1 : a.tmps[1]? = some v1
 t5 : a.tmps[5]? = some z5
 t6 : a.tmps[6]? = some z6
 t7 : a.tmps[7]? = some (ii (i : Int))
 o5 : OwnL w0.heap.size qT 4 w z5 (rs.map (elQ 4))
 o6 : OwnL w0.heap.size rT 3 w z6 (rs.map (elR 4))
abbrev LF (w : World) : Ending → World → Prop := Go.Proofs.YtccabfblgjcboaaGreatDoor.Val w (.bool true)
section
variable {w : World} {v0 v1 : Value} {ls : List (List UInt8)}
theorem S1.at {rs : List Rat} {i N : Nat} {z5 z6 : Value} {a : Act} {w1 : World} {l : List UInt8} {r : Rat} (h : S1 w v0 v1 rs i z5 z6 a w1) : At (C1 v0 v1 z5 z6 N rs i l r w) [.val 0 (op 2), .val 1 (op 3), .val 5 (op 0), .val 6 (op 1), .val 7 (op 4)] a w1 :=
 ⟨h.below, h.defers, h.size, ⟨⟨_, h.t0, (cS rfl).2 rfl⟩, ⟨_, h.t1, (cS rfl).2 rfl⟩, ⟨_, h.t5, (jn rfl).2 ⟨rfl, h.o5⟩⟩, ⟨_, h.t6, (jn rfl).2 ⟨rfl, h.o6⟩⟩, ⟨_, h.t7, (jA rfl).2 rfl⟩, trivial⟩, lim_at (lim_O h.o5 (lim_O h.o6 (lim_rest rfl)))⟩
set_option maxRecDepth 100000 in
theorem loop1 (hG : Gr w) (h0 : Ls 1 w v0 (ls.map elTx)) (h1 : v1.oneCell' = true) (hN : ls.length ≤ 1000) {a : Act} {w1 : World} {z5 z6 : Value} {R : Code} (hS : S1 w v0 v1 [] 0 z5 z6 a w1)
 (hQ : ∀ z5 z6 a w1, (∀ l ∈ ls, l.length ≤ 60) → S1 w v0 v1 (ls.map nOf) ls.length z5 z6 a w1 → R.wp Tryz.prog (bodyPost Tryz.prog Tryz.f8 (LF w)) a w1) :
 (Code.block 0 (.loop l1_lf)).wp Tryz.prog (Exit.then (fun a w1 => R.wp Tryz.prog (bodyPost Tryz.prog Tryz.f8 (LF w)) a w1) (bodyPost Tryz.prog Tryz.f8 (LF w))) a w1 := by
 have L0 : (ls.map elTx).length = ls.length := by simp
 refine jz (Θ := Nat) (fun i a w1 => i ≤ ls.length ∧ (∀ l ∈ ls.take i, l.length ≤ 60) ∧ ∃ z5 z6, S1 w v0 v1 ((ls.take i).map nOf) i z5 z6 a w1) (fun i => ls.length - i) ?_ 0 ⟨Nat.zero_le _, by simp, _, _, hS⟩
 rintro i a w1 ⟨hi, hl, z5, z6, hS⟩
 rcases Nat.lt_or_ge i ls.length with hlt | hge
 · obtain ⟨l, hli⟩ : ∃ l, ls[i]? = some l := ⟨_, List.getElem?_eq_getElem hlt⟩
   have hC := c1_ok (N := ls.length) (rs := (ls.take i).map nOf) (i := i) (l := l) (r := nOf l) (w := w) h0.one h1 hS.o5.one hS.o6.one
   have hA := hS.at (N := ls.length) (l := l) (r := nOf l)
   have hTa : ∀ t ∈ t1a true, t.Valid (C1 v0 v1 z5 z6 ls.length ((ls.take i).map nOf) i l (nOf l) w) := ca (e_lenZ und_strs (pzW rfl h0) (by rw [L0]; exact rv rfl)) (ca (kj (pv rfl) (pv rfl) (decide_eq_true (by omega))) ce)
   have hTb : ∀ b, decide ((l.length : Int) > 60) = b → ∀ t ∈ t1b b, t.Valid (C1 v0 v1 z5 z6 ls.length ((ls.take i).map nOf) i l (nOf l) w) := fun b hb =>
    ca (e_ixZ (n := 1) und_strs siz_strs (jj rfl) (pzW rfl h0) (pv rfl) (by rw [L0]; exact hlt) (kn rfl)) (ca (e_ldZ1 (n := 1) (i := i) (y := jm (je l)) agg_str [] [] (jj rfl) (fun w hb => h0.below hb) (by rw [List.getElem?_map, hli]; rfl) rfl rfl) (ca (e_slen rfl (pv rfl) (rv rfl)) (ca (kw (pv rfl) jR hb) (ca (e_known hG) ce))))
   refine wp_seq (cE hC hTa (x := .normal) (n := 30) (post := [.val 0 (op 2), .val 1 (op 3), .val 5 (op 0), .val 6 (op 1), .val 7 (op 4)]) (by kernel_rfl) hA (fun a w1 hA => ?_))
   refine wp_seq (wp_block (wp_seq ?_))
   by_cases h60 : 60 < l.length
   · refine cE hC (hTb true (decide_eq_true (by omega))) (x := .ret) (n := 30) (post := [.val 4 (vp (.bool true))]) (by kernel_rfl) hA (fun a w1 hA => ?_)
     exact (at_ret rfl hA (fun v hv => ⟨by rw [kp.1 hv], hA.below⟩) : bodyPost Tryz.prog Tryz.f8 (LF w) .ret a w1)
   · refine cE hC (hTb false (decide_eq_false (by omega))) (x := .normal) (n := 30) (post := [.val 0 (op 2), .val 1 (op 3), .val 5 (op 0), .val 6 (op 1), .val 7 (op 4)]) (by kernel_rfl) hA (fun a w1 hA => ?_)
     have z4 : cB (nOf l) 4 := cB.read l (L := 60) (by omega) (by decide) (by decide)
     have hTc : ∀ t ∈ t1b false ++ t1c, t.Valid (C1 v0 v1 z5 z6 ls.length ((ls.take i).map nOf) i l (nOf l) w) := t_app (hTb false (decide_eq_false (by omega))) (ca (e_both hG (by omega) (pv rfl) rfl z4 rfl rfl) ce)
     refine wp_seq (cE hC hTc (x := .normal) (n := 30) (post := [.val 0 (op 2), .val 1 (op 3), .val 5 (op 0), .val 6 (op 1), .val 7 (op 4), .box 8 qT [.cls 9 4], .box 9 rT [.cls 10 3]]) (by kernel_rfl) hA (fun a w1 hA => ?_))
     have hCN := c1N_ok (N := ls.length) (rs := (ls.take i).map nOf) (i := i) (l := l) (r := nOf l) (w := w) h0.one h1 hS.o5.one hS.o6.one
     have hA : At (C1N v0 v1 z5 z6 ls.length ((ls.take i).map nOf) i l (nOf l) w) [.val 0 (op 2), .val 1 (op 3), .val 5 (op 0), .val 6 (op 1), .val 7 (op 4), .box 8 qT [.cls 9 4], .box 9 rT [.cls 10 3]] a w1 := at_reL hA [(0, 0), (1, 1), (2, 2), (3, 3), (4, 4), (9, 9), (10, 10)] (cH rfl <| cH rfl <| cH rfl <| cH rfl <| cH rfl <| cH rfl <| cH rfl prs_nil) rfl rfl (fun k hk => by
      rw [List.flatMap_append] at hk
      simpa [clN] using hk)
     have hTd : ∀ t ∈ t1d, t.Valid (C1N v0 v1 z5 z6 ls.length ((ls.take i).map nOf) i l (nOf l) w) := ca (e_push und_q' inf_q rfl (by decide) (by decide) sep_q (by simp; omega) (st_q _ _) rfl rfl ⟨_, _, rfl, rfl, rfl, rfl⟩ rfl) (ca (e_push und_r' inf_r rfl (by decide) (by decide) sep_r (by simp; omega) (st_r _ _) rfl rfl ⟨_, _, rfl, rfl, rfl, rfl⟩ rfl) (ca (e_add (by omega) (pv rfl) jR (rv rfl) (by omega)) ce))
     refine cE hCN hTd (x := .normal) (n := 30) (post := [.val 0 (op 2), .val 1 (op 3), .val 5 (op 12), .val 6 (op 13), .val 7 (op 4)]) (by kernel_rfl) hA (fun a w1 hA => ?_)
     refine cE hCN hTd (x := .normal) (n := 30) (post := [.val 0 (op 2), .val 1 (op 3), .val 5 (op 12), .val 6 (op 13), .val 7 (op 11)]) (by kernel_rfl) hA (fun a w1 hA => ?_)
     obtain ⟨⟨u0, g0, e0⟩, ⟨u1, g1, e1⟩, ⟨u5, g5, e5⟩, ⟨u6, g6, e6⟩, ⟨u7, g7, e7⟩, _⟩ := hA.items
     rw [(cS rfl).1 e0] at g0
     rw [(cS rfl).1 e1] at g1
     rw [(jA rfl).1 e7] at g7
     have hmap : ∀ {β : Type} (f : Rat → β), ((ls.take (i + 1)).map nOf).map f = ((ls.take i).map nOf).map f ++ [f (nOf l)] := fun f => by
      rw [List.take_add_one, hli]; simp
     refine ⟨i + 1, ⟨hlt, fun x hx => ?_, u5, u6, ⟨hA.below, hA.defers, hA.size, g0, g1, g5, g6, g7, ?_, ?_⟩⟩, by show ls.length - (i + 1) < ls.length - i; omega⟩
     · rw [List.take_add_one, hli] at hx
       simp at hx
       rcases hx with hx | rfl
       · exact hl x hx
       · omega
     · rw [hmap]; exact (op_isN rfl).1 e5
     · rw [hmap]; exact (op_isN rfl).1 e6
 · obtain rfl : i = ls.length := by omega
   have hC := c1_ok (N := ls.length) (rs := (ls.take ls.length).map nOf) (i := ls.length) (l := []) (r := 0) (w := w) h0.one h1 hS.o5.one hS.o6.one
   have hA := hS.at (N := ls.length) (l := []) (r := 0)
   have hTa : ∀ t ∈ t1a false, t.Valid (C1 v0 v1 z5 z6 ls.length ((ls.take ls.length).map nOf) ls.length [] 0 w) := ca (e_lenZ und_strs (pzW rfl h0) (by rw [L0]; exact rv rfl)) (ca (kj (pv rfl) (pv rfl) (decide_eq_false (by omega))) ce)
   refine wp_seq (cE hC hTa (x := .exit 0) (n := 30) (post := [.val 0 (op 2), .val 1 (op 3), .val 5 (op 0), .val 6 (op 1), .val 7 (op 4)]) (by kernel_rfl) hA (fun a w1 hA => ?_))
   show R.wp Tryz.prog (bodyPost Tryz.prog Tryz.f8 (LF w)) a w1
   obtain ⟨⟨u0, g0, e0⟩, ⟨u1, g1, e1⟩, ⟨u5, g5, e5⟩, ⟨u6, g6, e6⟩, ⟨u7, g7, e7⟩, _⟩ := hA.items
   rw [(cS rfl).1 e0] at g0
   rw [(cS rfl).1 e1] at g1
   rw [(jA rfl).1 e7] at g7
   rw [((jn rfl).1 e5).1] at g5
   rw [((jn rfl).1 e6).1] at g6
   have o5 := ((jn rfl).1 e5).2
   have o6 := ((jn rfl).1 e6).2
   rw [List.take_length] at o5 o6 hl
   exact hQ z5 z6 a w1 hl ⟨hA.below, hA.defers, hA.size, g0, g1, g5, g6, g7, o5, o6⟩
end
end Sym
open Go Go.RowKit Go.Proofs Lim
open Go.ChangeShapes Go.WideShapes Go.ChangeAt Go.ChangeMaps
namespace Sym
theorem lst_of {α : Type} (d : α) (n : Nat) {w : World} {len cap : Nat} {a : Option Addr} (el : α → List Cl) (hst : ∀ x, ∀ y ∈ el x, y.St) (hc : len ≤ cap) (hm : cap ≤ maxLen)
 (h : ∀ i, i < len → ∃ x b off vs, a = some ⟨b, off, none⟩ ∧ vs.length = n ∧ (∀ j u, vs[j]? = some u → w.cell? ⟨b, off + (i * n + j), none⟩ = some u) ∧ ElIs w (el x) vs) : ∃ xs : List α, xs.length = len ∧ Ls n w (.slice a len cap) (xs.map el) := by
 obtain ⟨f, hf⟩ : ∃ f : Nat → α, ∀ i, i < len → ∃ b off vs, a = some ⟨b, off, none⟩ ∧ vs.length = n ∧ (∀ j u, vs[j]? = some u → w.cell? ⟨b, off + (i * n + j), none⟩ = some u) ∧ ElIs w (el (f i)) vs := by
  have : ∀ i, ∃ x, i < len → ∃ b off vs, a = some ⟨b, off, none⟩ ∧ vs.length = n ∧ (∀ j u, vs[j]? = some u → w.cell? ⟨b, off + (i * n + j), none⟩ = some u) ∧ ElIs w (el x) vs := fun i => by
   by_cases hi : i < len
   · obtain ⟨x, hx⟩ := h i hi
     exact ⟨x, fun _ => hx⟩
   · exact ⟨d, fun h => absurd h hi⟩
  exact ⟨fun i => Classical.choose (this i), fun i hi => Classical.choose_spec (this i) hi⟩
 refine ⟨(List.range len).map f, by simp, fun e he => ?_, a, cap, by simp, by simpa using hc, by simp only [maxLen] at hm; omega, fun hn => ?_⟩
 · obtain ⟨x, _, rfl⟩ := List.mem_map.1 he
   exact hst x
 · have hn : 0 < len := by simpa using hn
   obtain ⟨b, off, _, ha, _⟩ := hf 0 hn
   refine ⟨b, off, ha, fun i e hi => ?_⟩
   have hil : i < len := by
    have := (List.getElem?_eq_some_iff.1 hi).1
    simpa using this
   obtain ⟨b', off', vs, ha', g1, g2, g3⟩ := hf i hil
   rw [ha] at ha'
   injection ha' with ha'
   injection ha' with e1 e2
   subst e1 e2
   have : e = el (f i) := by
    rw [List.getElem?_map, List.getElem?_map, List.getElem?_range hil] at hi
    simpa using hi.symm
   subst this
   exact ⟨vs, g1, g2, g3⟩
theorem cell_spot {w : World} {a : Addr} {v : Value} (h : w.cell? a = some v) : a = ⟨a.block, a.off, none⟩ := by
 unfold World.cell? at h
 split at h
 · split at h
   · cases h
   · rename_i hs
     obtain ⟨b, o, s⟩ := a
     cases s with
     | none => rfl
     | some x => simp at hs
 · cases h
theorem add_zero_spot {w : World} {a : Addr} {v : Value} (h : w.cell? (a.add 0) = some v) : ∃ b o, a = ⟨b, o, none⟩ := by
 have h : w.cell? a = some v := by simpa [Addr.add] using h
 exact ⟨_, _, cell_spot h⟩
section
variable {H : Type} {enc : TypeId × Value → H} {W : World} {base : Nat}
set_option maxRecDepth 100000 in
theorem open_texts {v : Value} {d : DataW H} {p : List MemPlace} (hv : Value.okWide Tryz.prog W .any base strsT v) (hT : DataW.Trod enc Tryz.prog W 0 (fun _ => true) true strsT v d p) : ∃ ls : List (List UInt8), Ls 1 W v (ls.map elTx) := by
 obtain ⟨a0, len, cap, rfl⟩ := okWide_slice Tryz.underlying89 hv
 obtain ⟨fuel, hf⟩ := hT
 rcases open_strings Tryz.underlying89 Tryz.underlying9 (by kernel_rfl) hf with ⟨h, _⟩ | ⟨a, len', cap', ss, h, _, hl, hm, hlen, _, hc, _⟩
 · have h : [Value.slice a0 len cap] = [.slice none 0 0] := h
   injection h with h
   injection h with e1 e2 e3
   subst e1 e2 e3
   obtain ⟨xs, _, hx⟩ := lst_of (w := W) ([] : List UInt8) 1 (a := none) (len := 0) (cap := 0) elTx (fun l => st_cons (clV_st rfl rfl) st_nil) (Nat.le_refl _) (by decide) (fun i hi => by omega)
   exact ⟨xs, hx⟩
 · have h : [Value.slice a0 len cap] = [.slice (some a) len' cap'] := h
   injection h with h
   injection h with e1 e2 e3
   subst e1 e2 e3
   have hsl : len ≤ ss.length := by rw [hlen]; simp; exact hl
   have hsp : 0 < len → ∃ b o, a = ⟨b, o, none⟩ := fun h => add_zero_spot (hc 0 (by omega))
   obtain ⟨xs, _, hx⟩ := lst_of (w := W) ([] : List UInt8) 1 (a := some a) (len := len) (cap := cap) elTx (fun l => st_cons (clV_st rfl rfl) st_nil) hl hm (fun i hi => by
    have hci := hc i (by omega)
    obtain ⟨b, o, rfl⟩ := hsp (by omega)
    rw [jo] at hci
    refine ⟨(ss.getD i ByteArray.empty).data.toList, b, o, [.string (ss.getD i ByteArray.empty)], rfl, rfl, fun j u hj => ?_, ⟨_, [], rfl, ⟨fun _ => .string (ss.getD i ByteArray.empty), rfl, rfl⟩, rfl⟩⟩
    cases j with
    | zero =>
     have : u = .string (ss.getD i ByteArray.empty) := by simpa using hj.symm
     subst this
     rw [Nat.mul_one, Nat.add_zero]
     exact hci
    | succ j => simp at hj)
   exact ⟨xs, hx⟩
set_option maxRecDepth 100000 in
theorem open_boxes {v : Value} {d : DataW H} {p : List MemPlace} (hv : Value.okWide Tryz.prog W .any base endsT v) (hT : DataW.Trod enc Tryz.prog W 0 (fun _ => true) true endsT v d p) : ∃ bx : List (List UInt8 × List UInt8), Ls 2 W v (bx.map elE) := by
 obtain ⟨a0, len, cap, rfl⟩ := okWide_slice Tryz.underlying90 hv
 obtain ⟨fuel, hf⟩ := hT
 rcases Deep.open_slice Tryz.underlying90 hf with ⟨h, _⟩ | ⟨a, len', cap', m, n, D, Pl, h, _, hl, hm, hmm, _, hc⟩
 · have h : [Value.slice a0 len cap] = [.slice none 0 0] := h
   injection h with h
   injection h with e1 e2 e3
   subst e1 e2 e3
   obtain ⟨xs, _, hx⟩ := lst_of (w := W) (([], []) : List UInt8 × List UInt8) 2 (a := none) (len := 0) (cap := 0) elE (fun l => st_cons (clV_st rfl rfl) (st_cons (clV_st rfl rfl) st_nil)) (Nat.le_refl _) (by decide) (fun i hi => by omega)
   exact ⟨xs, hx⟩
 · have h : [Value.slice a0 len cap] = [.slice (some a) len' cap'] := h
   injection h with h
   injection h with e1 e2 e3
   subst e1 e2 e3
   have hsl : len ≤ m := by rw [hmm]; simp; exact hl
   have hce : Tryz.prog.cellsOf 64 = 2 := by kernel_rfl
   rw [hce] at hc
   have hsp : 0 < len → ∃ b o, a = ⟨b, o, none⟩ := fun h => by
    obtain ⟨cs, hci, _⟩ := hc 0 (by omega)
    obtain ⟨_, hlen, hcell⟩ := World.cells?_some hci
    obtain ⟨u, hu⟩ : ∃ u, cs[0]? = some u := ⟨cs[0]'(by omega), List.getElem?_eq_getElem _⟩
    have h0 := hcell 0 (by omega)
    rw [hu] at h0
    exact add_zero_spot (by simpa [Addr.add] using h0)
   obtain ⟨xs, _, hx⟩ := lst_of (w := W) (([], []) : List UInt8 × List UInt8) 2 (a := some a) (len := len) (cap := cap) elE (fun l => st_cons (clV_st rfl rfl) (st_cons (clV_st rfl rfl) st_nil)) hl hm (fun i hi => by
    obtain ⟨cs, hci, htr⟩ := hc i (by omega)
    obtain ⟨b, o, rfl⟩ := hsp (by omega)
    obtain ⟨s, t, rfl⟩ := open_ends htr
    obtain ⟨_, _, hcell⟩ := World.cells?_some hci
    refine ⟨(s.data.toList, t.data.toList), b, o, [.string s, .string t], rfl, rfl, fun j u hj => ?_, ⟨[.string s], [.string t], rfl, ⟨fun _ => .string s, rfl, rfl⟩, [.string t], [], rfl, ⟨fun _ => .string t, rfl, rfl⟩, rfl⟩⟩
    have hj2 : j < 2 := (List.getElem?_eq_some_iff.1 hj).1
    have := hcell j hj2
    rw [jo, jo, hj] at this
    rw [← Nat.add_assoc]
    exact this)
   exact ⟨xs, hx⟩
end
end Sym
open Go Go.RowKit Go.Proofs Lim
namespace Sym
abbrev cl2 (B : Nat) (v1 z5 z6 z10 z11 : Value) (M : Nat) (rs : List Rat) (ps : List (Rat × Rat)) (i : Nat) (la lb : List UInt8) (p : Rat × Rat) : List Cl := [clO B sT 8 z10 (ps.map (elS 4)) (nxt (elS 4 p)), clO B tT 6 z11 (ps.map (elT 4)) (nxt (elT 4 p)), clO B qT 4 z5 (rs.map (elQ 4)) dead, clO B rT 3 z6 (rs.map (elR 4)) dead,
 clW v1, jm (ii (i : Int)), jm (ii (M : Int)), clW (jI v1 (i * 2)), jm (je la), jm (je lb), jm (ii (la.length : Int)), jm (ii (lb.length : Int)), clW (jI v1 (i * 2 + 1)), clQ p.1 4, clQ p.2 4, cN (jZ p.1 p.2) 4, cN (ka p.1 p.2) 4, jm (ii ((i + 1 : Nat) : Int))]
abbrev cl2N (B : Nat) (v1 z5 z6 z10 z11 : Value) (M : Nat) (rs : List Rat) (ps : List (Rat × Rat)) (i : Nat) (la lb : List UInt8) (p : Rat × Rat) : List Cl := cl2 B v1 z5 z6 z10 z11 M rs ps i la lb p ++ [clN B sT 8 (ps.map (elS 4) ++ [elS 4 p]), clN B tT 6 (ps.map (elT 4) ++ [elT 4 p])]
theorem st_s (p : Rat × Rat) (k : Nat) : ∀ x ∈ elS k p, x.St := st_cons (clQ_st _ _) (st_cons (clQ_st _ _) st_nil)
theorem st_t (p : Rat × Rat) (k : Nat) : ∀ x ∈ elT k p, x.St := st_cons (clR_st _ _) (st_cons (clR_st _ _) st_nil)
section
variable {v1 z5 z6 z10 z11 : Value} {M i : Nat} {rs : List Rat} {ps : List (Rat × Rat)} {la lb : List UInt8} {p : Rat × Rat} {w : World}
noncomputable abbrev C2 (v1 z5 z6 z10 z11 : Value) (M : Nat) (rs : List Rat) (ps : List (Rat × Rat)) (i : Nat) (la lb : List UInt8) (p : Rat × Rat) (w : World) : Ctx := mkC [1, 1, 1, 1, 1, 1, 1, 1, 1, 1, 1, 1, 1, 4, 4, 3, 3, 1] [false, false, false, false, false, true, true, false, true, true, true, true, false, true, true, true, true, true] okS 211 (cl2 w.heap.size v1 z5 z6 z10 z11 M rs ps i la lb p) w
noncomputable abbrev C2N (v1 z5 z6 z10 z11 : Value) (M : Nat) (rs : List Rat) (ps : List (Rat × Rat)) (i : Nat) (la lb : List UInt8) (p : Rat × Rat) (w : World) : Ctx := mkC [1, 1, 1, 1, 1, 1, 1, 1, 1, 1, 1, 1, 1, 4, 4, 3, 3, 1, 1, 1] [false, false, false, false, false, true, true, false, true, true, true, true, false, true, true, true, true, true, false, false] [] 211 (cl2N w.heap.size v1 z5 z6 z10 z11 M rs ps i la lb p) w
def G4 (rs : List Rat) (ps : List (Rat × Rat)) (e10 e11 : World → List Value → Prop) (g : Gw) : Prop := (g.t = sT ∧ g.m = (ps.map (elS 4)).length * 8 ∧ g.n = 8 ∧ g.e = e10) ∨ (g.t = tT ∧ g.m = (ps.map (elT 4)).length * 6 ∧ g.n = 6 ∧ g.e = e11) ∨ (g.t = qT ∧ g.m = (rs.map (elQ 4)).length * 4) ∨ (g.t = rT ∧ g.m = (rs.map (elR 4)).length * 3)
theorem G4.s {e10 e11 : World → List Value → Prop} {g : Gw} (h : G4 rs ps e10 e11 g) : g.t ≠ sT ∨ g.m = (ps.map (elS 4)).length * 8 ∧ g.n = 8 ∧ g.e = e10 := by
 rcases h with h | h | h | h
 · exact .inr h.2
 all_goals exact .inl (by rw [h.1]; decide)
theorem G4.t {e10 e11 : World → List Value → Prop} {g : Gw} (h : G4 rs ps e10 e11 g) : g.t ≠ tT ∨ g.m = (ps.map (elT 4)).length * 6 ∧ g.n = 6 ∧ g.e = e11 := by
 rcases h with h | h | h | h
 · exact .inl (by rw [h.1]; decide)
 · exact .inr h.2
 all_goals exact .inl (by rw [h.1]; decide)
theorem G4.q {e10 e11 : World → List Value → Prop} {g : Gw} (h : G4 rs ps e10 e11 g) : g.t ≠ qT ∨ g.m = (rs.map (elQ 4)).length * 4 := by
 rcases h with h | h | h | h
 · exact .inl (by rw [h.1]; decide)
 · exact .inl (by rw [h.1]; decide)
 · exact .inr h.2
 · exact .inl (by rw [h.1]; decide)
theorem G4.r {e10 e11 : World → List Value → Prop} {g : Gw} (h : G4 rs ps e10 e11 g) : g.t ≠ rT ∨ g.m = (rs.map (elR 4)).length * 3 := by
 rcases h with h | h | h | h
 · exact .inl (by rw [h.1]; decide)
 · exact .inl (by rw [h.1]; decide)
 · exact .inl (by rw [h.1]; decide)
 · exact .inr h.2
theorem imp1 {a b c d : Prop} (h : a ∨ b ∧ c ∧ d) : a ∨ b := h.imp id And.left
theorem g4_mem {B : Nat} {e10 e11 : World → List Value → Prop} {l : List Cl} (hl : l.flatMap (·.L) = []) : ∀ g ∈ (clO B sT 8 z10 (ps.map (elS 4)) e10 :: clO B tT 6 z11 (ps.map (elT 4)) e11 :: clO B qT 4 z5 (rs.map (elQ 4)) dead :: clO B rT 3 z6 (rs.map (elR 4)) dead :: l).flatMap (·.L), G4 rs ps e10 e11 g :=
 mem_O (fun g hg => .inl (clO_L hg)) (mem_O (fun g hg => .inr (.inl (clO_L hg))) (mem_O (fun g hg => .inr (.inr (.inl ⟨(clO_L hg).1, (clO_L hg).2.1⟩))) (mem_O (fun g hg => .inr (.inr (.inr ⟨(clO_L hg).1, (clO_L hg).2.1⟩))) (mem_R hl))))
theorem c2_ok (h1 : v1.oneCell' = true) (h5 : z5.oneCell' = true) (h6 : z6.oneCell' = true) (h10 : z10.oneCell' = true) (h11 : z11.oneCell' = true) : (C2 v1 z5 z6 z10 z11 M rs ps i la lb p w).Ok := by
 have hL : ∀ g ∈ (cl2 w.heap.size v1 z5 z6 z10 z11 M rs ps i la lb p).flatMap (·.L), G4 rs ps (nxt (elS 4 p)) (nxt (elT 4 p)) g := g4_mem rfl
 have q := fun r k => clQ_ok (okT := okS) (B := w.heap.size) qrsT.1 r k
 have s := fun r k => co (okT := okS) (B := w.heap.size) qrsT.2 r k
 refine cL (cb (clO_ok sepS h10) <| cb (clO_ok sepS h11) <| cb (clO_ok sepS h5) <| cb (clO_ok sepS h6) <| cb (jf h1) <| cb (cu _) <| cb (cu _) <| cb (jf (jy _ _)) <| cb (jD _) <| cb (jD _) <| cb (cu _) <| cb (cu _) <| cb (jf (jy _ _)) <| cb (q _ _) <| cb (q _ _) <| cb (s _ _) <| cb (s _ _) <| cb (cu _) cD) rfl rfl (.inr ?_)
 exact cj (gr_O (fun g hg => imp1 (hL g hg).s)) <| cj (gr_O (fun g hg => imp1 (hL g hg).t)) <| cj (gr_O (fun g hg => (hL g hg).q)) <| cj (gr_O (fun g hg => (hL g hg).r)) <| cj gr_W <| cj gr_V <| cj gr_V <| cj gr_W <| cj gr_V <| cj gr_V <| cj gr_V <| cj gr_V <| cj gr_W <| cj (gr_Q _ _) <| cj (gr_Q _ _) <| cj (gr_R _ _) <| cj (gr_R _ _) <| cj gr_V grs_nil
theorem c2N_ok (h1 : v1.oneCell' = true) (h5 : z5.oneCell' = true) (h6 : z6.oneCell' = true) (h10 : z10.oneCell' = true) (h11 : z11.oneCell' = true) : (C2N v1 z5 z6 z10 z11 M rs ps i la lb p w).Ok := by
 have hL : ∀ g ∈ (cl2N w.heap.size v1 z5 z6 z10 z11 M rs ps i la lb p).flatMap (·.L), G4 rs ps (nxt (elS 4 p)) (nxt (elT 4 p)) g := g4_mem rfl
 refine cL (cb (clO_ok (noN rfl) h10) <| cb (clO_ok (noN rfl) h11) <| cb (clO_ok (noN rfl) h5) <| cb (clO_ok (noN rfl) h6) <| cb (jf h1) <| cb (cu _) <| cb (cu _) <| cb (jf (jy _ _)) <| cb (jD _) <| cb (jD _) <| cb (cu _) <| cb (cu _) <| cb (jf (jy _ _)) <| cb (clQ_ok noT _ _) <| cb (clQ_ok noT _ _) <| cb (co noT _ _) <| cb (co noT _ _) <| cb (cu _) <| cb clN_ok <| cb clN_ok cD) rfl rfl (.inr ?_)
 exact cj (gr_O (fun g hg => imp1 (hL g hg).s)) <| cj (gr_O (fun g hg => imp1 (hL g hg).t)) <| cj (gr_O (fun g hg => (hL g hg).q)) <| cj (gr_O (fun g hg => (hL g hg).r)) <| cj gr_W <| cj gr_V <| cj gr_V <| cj gr_W <| cj gr_V <| cj gr_V <| cj gr_V <| cj gr_V <| cj gr_W <| cj (gr_Q _ _) <| cj (gr_Q _ _) <| cj (gr_R _ _) <| cj (gr_R _ _) <| cj gr_V <| cj (gr_N (st_s p 4) (fun g hg => (hL g hg).s)) <| cj (gr_N (st_t p 4) (fun g hg => (hL g hg).t)) grs_nil
end
def t2a (b : Bool) : List cW := [⟨.blt .len [endsT] intT, [op 4], .val (op 6)⟩, ⟨.bin .lss intT, [op 5, op 6], .val (vp (.bool b))⟩]
def t2b (b c : Bool) : List cW := [⟨.ix endsT, [op 4, op 5], .val (op 7)⟩, ⟨.fa 64 0, [op 7], .val (op 7)⟩, ⟨.fa 64 1, [op 7], .val (op 12)⟩, ⟨.ld 9, [op 7], .val (op 8)⟩, ⟨.ld 9, [op 12], .val (op 9)⟩, ⟨.blt .len [9] intT, [op 8], .val (op 10)⟩, ⟨.blt .len [9] intT, [op 9], .val (op 11)⟩, ⟨.bin .gtr intT, [op 10, vp (ii 60)], .val (vp (.bool b))⟩, ⟨.bin .gtr intT, [op 11, vp (ii 60)], .val (vp (.bool c))⟩, ⟨.call 10, [], .val (vp (.bool true))⟩]
def t2c : List cW := [⟨.ld 64, [op 7], .val (.agg [.cls 8 1, .cls 9 1])⟩, ⟨.call 45, [.agg [.cls 8 1, .cls 9 1]], .tup [sp 13 14, rsp 15 16]⟩]
def t2d : List cW := [⟨.blt .append [93, 93] 93, [op 0, .slc sT 1 [.cls 13 4, .cls 14 4]], .val (op 18)⟩, ⟨.blt .append [94, 94] 94, [op 1, .slc tT 1 [.cls 15 3, .cls 16 3]], .val (op 19)⟩, ⟨.bin .add intT, [op 5, vp (ii 1)], .val (op 17)⟩]
noncomputable def x2_lf : Code := cI (jG 5 b_lf)
noncomputable def l2_lf : Code := cP (cP (cq x2_lf))
abbrev pOf (p : List UInt8 × List UInt8) : Rat × Rat := (nOf p.1, nOf p.2)
structure S2 (w0 : World) (v1 : Value) (rs : List Rat) (ps : List (Rat × Rat)) (i : Nat) (z5 z6 z10 z11 : Value) (a : Act) (w : World) : Prop where
 below : Below w0.heap.size w0 w
 defers : a.defers = []
 size : a.tmps.size = 211
 t1 : a.tmps[1]? = some v1
 t5 : a.tmps[5]? = some z5
 t6 : a.tmps[6]? = some z6
 t10 : a.tmps[10]? = some z10
 t11 : a.tmps[11]? = some z11
 t12 : a.tmps[12]? = some (ii (i : Int))
 o5 : OwnL w0.heap.size qT 4 w z5 (rs.map (elQ 4))
 o6 : OwnL w0.heap.size rT 3 w z6 (rs.map (elR 4))
 o10 : OwnL w0.heap.size sT 8 w z10 (ps.map (elS 4))
 o11 : OwnL w0.heap.size tT 6 w z11 (ps.map (elT 4))
section
variable {w : World} {v1 : Value} {rs : List Rat} {bx : List (List UInt8 × List UInt8)}
theorem S2.at {ps : List (Rat × Rat)} {i M : Nat} {z5 z6 z10 z11 : Value} {a : Act} {w1 : World} {la lb : List UInt8} {p : Rat × Rat} (h : S2 w v1 rs ps i z5 z6 z10 z11 a w1) : At (C2 v1 z5 z6 z10 z11 M rs ps i la lb p w) [.val 1 (op 4), .val 5 (op 2), .val 6 (op 3), .val 10 (op 0), .val 11 (op 1), .val 12 (op 5)] a w1 :=
 ⟨h.below, h.defers, h.size, ⟨⟨_, h.t1, (cS rfl).2 rfl⟩, ⟨_, h.t5, (jn rfl).2 ⟨rfl, h.o5⟩⟩, ⟨_, h.t6, (jn rfl).2 ⟨rfl, h.o6⟩⟩, ⟨_, h.t10, (jn rfl).2 ⟨rfl, h.o10⟩⟩, ⟨_, h.t11, (jn rfl).2 ⟨rfl, h.o11⟩⟩, ⟨_, h.t12, (jA rfl).2 rfl⟩, trivial⟩, lim_at (lim_O h.o10 (lim_O h.o11 (lim_O h.o5 (lim_O h.o6 (lim_rest rfl)))))⟩
set_option maxRecDepth 100000 in
theorem loop2 (hG : Gr w) (h1 : Ls 2 w v1 (bx.map elE)) (hM : bx.length ≤ 1000) {a : Act} {w1 : World} {z5 z6 z10 z11 : Value} {R : Code} (hS : S2 w v1 rs [] 0 z5 z6 z10 z11 a w1)
 (hQ : ∀ z5 z6 z10 z11 a w1, (∀ p ∈ bx, p.1.length ≤ 60 ∧ p.2.length ≤ 60) → S2 w v1 rs (bx.map pOf) bx.length z5 z6 z10 z11 a w1 → R.wp Tryz.prog (bodyPost Tryz.prog Tryz.f8 (LF w)) a w1) :
 (Code.block 2 (.loop l2_lf)).wp Tryz.prog (Exit.then (fun a w1 => R.wp Tryz.prog (bodyPost Tryz.prog Tryz.f8 (LF w)) a w1) (bodyPost Tryz.prog Tryz.f8 (LF w))) a w1 := by
 have L1 : (bx.map elE).length = bx.length := by simp
 refine jz (Θ := Nat) (fun i a w1 => i ≤ bx.length ∧ (∀ p ∈ bx.take i, p.1.length ≤ 60 ∧ p.2.length ≤ 60) ∧ ∃ z5 z6 z10 z11, S2 w v1 rs ((bx.take i).map pOf) i z5 z6 z10 z11 a w1) (fun i => bx.length - i) ?_ 0 ⟨Nat.zero_le _, by simp, _, _, _, _, hS⟩
 rintro i a w1 ⟨hi, hl, z5, z6, z10, z11, hS⟩
 rcases Nat.lt_or_ge i bx.length with hlt | hge
 · obtain ⟨⟨la, lb⟩, hli⟩ : ∃ l, bx[i]? = some l := ⟨_, List.getElem?_eq_getElem hlt⟩
   have hC := c2_ok (M := bx.length) (rs := rs) (ps := (bx.take i).map pOf) (i := i) (la := la) (lb := lb) (p := pOf (la, lb)) (w := w) h1.one hS.o5.one hS.o6.one hS.o10.one hS.o11.one
   have hA := hS.at (M := bx.length) (la := la) (lb := lb) (p := pOf (la, lb))
   have hTa : ∀ t ∈ t2a true, t.Valid (C2 v1 z5 z6 z10 z11 bx.length rs ((bx.take i).map pOf) i la lb (pOf (la, lb)) w) := ca (e_lenZ und_ends (pzW rfl h1) (by rw [L1]; exact rv rfl)) (ca (kj (pv rfl) (pv rfl) (decide_eq_true (by omega))) ce)
   have hel : (bx.map elE)[i]? = some ([] ++ [jm (je la)] ++ [jm (je lb)]) := by rw [List.getElem?_map, hli]; rfl
   have hel' : (bx.map elE)[i]? = some ([jm (je la)] ++ [jm (je lb)] ++ []) := by rw [List.getElem?_map, hli]; rfl
   have hel2 : (bx.map elE)[i]? = some ([] ++ [jm (je la), jm (je lb)] ++ []) := by rw [List.getElem?_map, hli]; rfl
   have hreal := h1.real (i := i) (by rw [L1]; exact hlt)
   have hTb : ∀ b c, decide ((la.length : Int) > 60) = b → decide ((lb.length : Int) > 60) = c → ∀ t ∈ t2b b c, t.Valid (C2 v1 z5 z6 z10 z11 bx.length rs ((bx.take i).map pOf) i la lb (pOf (la, lb)) w) := fun b c hb hc =>
    ca (e_ixZ (n := 2) und_ends siz_ends (jj rfl) (pzW rfl h1) (pv rfl) (by rw [L1]; exact hlt) (kn rfl)) (ca (e_faZ (es := bx.map elE) (off := 0) (m := 0) (by kernel_rfl) (jj rfl) hreal (kn rfl)) (ca (e_faZ (es := bx.map elE) (off := 1) (m := 0) (by kernel_rfl) (jj rfl) hreal (kn rfl))
     (ca (e_ldZ1 (n := 2) (i := i) (y := jm (je la)) agg_str [] [jm (je lb)] (jj rfl) (fun w hb => h1.below hb) hel rfl rfl) (ca (e_ldZ1 (n := 2) (i := i) (y := jm (je lb)) agg_str [jm (je la)] [] (jj rfl) (fun w hb => h1.below hb) hel' rfl rfl)
     (ca (e_slen rfl (pv rfl) (rv rfl)) (ca (e_slen rfl (pv rfl) (rv rfl)) (ca (kw (pv rfl) jR hb) (ca (kw (pv rfl) jR hc) (ca (e_known hG) ce)))))))))
   refine wp_seq (cE hC hTa (x := .normal) (n := 30) (post := [.val 1 (op 4), .val 5 (op 2), .val 6 (op 3), .val 10 (op 0), .val 11 (op 1), .val 12 (op 5)]) (by kernel_rfl) hA (fun a w1 hA => ?_))
   refine wp_seq (wp_block (wp_seq ?_))
   have hret : ∀ b c, (∀ t ∈ t2b b c, t.Valid (C2 v1 z5 z6 z10 z11 bx.length rs ((bx.take i).map pOf) i la lb (pOf (la, lb)) w)) → segB (C2 v1 z5 z6 z10 z11 bx.length rs ((bx.take i).map pOf) i la lb (pOf (la, lb)) w).toStat (t2b b c) 30 (cI (cP (cI (cq l2_lf)))) [.val 1 (op 4), .val 5 (op 2), .val 6 (op 3), .val 10 (op 0), .val 11 (op 1), .val 12 (op 5)] .ret [.val 4 (vp (.bool true))] = true →
    (cI (cP (cI (cq l2_lf)))).wp Tryz.prog (Exit.then (fun a w1 => (cq (cP (cI (cq l2_lf)))).wp Tryz.prog (Exit.inBlock 3 (Exit.then (fun a w1 => (cq (cq l2_lf)).wp Tryz.prog (Exit.then (fun a' w' => ∃ θ', (θ' ≤ bx.length ∧ (∀ p ∈ bx.take θ', p.1.length ≤ 60 ∧ p.2.length ≤ 60) ∧ ∃ z5 z6 z10 z11, S2 w v1 rs ((bx.take θ').map pOf) θ' z5 z6 z10 z11 a' w') ∧ bx.length - θ' < bx.length - i) (Exit.inBlock 2 (Exit.then (fun a w1 => R.wp Tryz.prog (bodyPost Tryz.prog Tryz.f8 (LF w)) a w1) (bodyPost Tryz.prog Tryz.f8 (LF w))))) a w1) (Exit.then (fun a' w' => ∃ θ', (θ' ≤ bx.length ∧ (∀ p ∈ bx.take θ', p.1.length ≤ 60 ∧ p.2.length ≤ 60) ∧ ∃ z5 z6 z10 z11, S2 w v1 rs ((bx.take θ').map pOf) θ' z5 z6 z10 z11 a' w') ∧ bx.length - θ' < bx.length - i) (Exit.inBlock 2 (Exit.then (fun a w1 => R.wp Tryz.prog (bodyPost Tryz.prog Tryz.f8 (LF w)) a w1) (bodyPost Tryz.prog Tryz.f8 (LF w))))))) a w1) (Exit.inBlock 3 (Exit.then (fun a w1 => (cq (cq l2_lf)).wp Tryz.prog (Exit.then (fun a' w' => ∃ θ', (θ' ≤ bx.length ∧ (∀ p ∈ bx.take θ', p.1.length ≤ 60 ∧ p.2.length ≤ 60) ∧ ∃ z5 z6 z10 z11, S2 w v1 rs ((bx.take θ').map pOf) θ' z5 z6 z10 z11 a' w') ∧ bx.length - θ' < bx.length - i) (Exit.inBlock 2 (Exit.then (fun a w1 => R.wp Tryz.prog (bodyPost Tryz.prog Tryz.f8 (LF w)) a w1) (bodyPost Tryz.prog Tryz.f8 (LF w))))) a w1) (Exit.then (fun a' w' => ∃ θ', (θ' ≤ bx.length ∧ (∀ p ∈ bx.take θ', p.1.length ≤ 60 ∧ p.2.length ≤ 60) ∧ ∃ z5 z6 z10 z11, S2 w v1 rs ((bx.take θ').map pOf) θ' z5 z6 z10 z11 a' w') ∧ bx.length - θ' < bx.length - i) (Exit.inBlock 2 (Exit.then (fun a w1 => R.wp Tryz.prog (bodyPost Tryz.prog Tryz.f8 (LF w)) a w1) (bodyPost Tryz.prog Tryz.f8 (LF w)))))))) a w1 := by
    intro b c hT hr
    refine cE hC hT hr hA (fun a w1 hA => ?_)
    exact (at_ret rfl hA (fun v hv => ⟨by rw [kp.1 hv], hA.below⟩) : bodyPost Tryz.prog Tryz.f8 (LF w) .ret a w1)
   by_cases ha60 : 60 < la.length
   · cases hb : decide ((lb.length : Int) > 60) with
     | true => exact hret true true (hTb true true (decide_eq_true (by omega)) hb) (by kernel_rfl)
     | false => exact hret true false (hTb true false (decide_eq_true (by omega)) hb) (by kernel_rfl)
   by_cases hb60 : 60 < lb.length
   · exact hret false true (hTb false true (decide_eq_false (by omega)) (decide_eq_true (by omega))) (by kernel_rfl)
   · have hTf := hTb false false (decide_eq_false (by omega)) (decide_eq_false (by omega))
     refine cE hC hTf (x := .normal) (n := 30) (post := [.val 1 (op 4), .val 5 (op 2), .val 6 (op 3), .val 10 (op 0), .val 11 (op 1), .val 12 (op 5)]) (by kernel_rfl) hA (fun a w1 hA => ?_)
     have za : cB (nOf la) 4 := cB.read la (L := 60) (by omega) (by decide) (by decide)
     have zb : cB (nOf lb) 4 := cB.read lb (L := 60) (by omega) (by decide) (by decide)
     have hTc : ∀ t ∈ t2b false false ++ t2c, t.Valid (C2 v1 z5 z6 z10 z11 bx.length rs ((bx.take i).map pOf) i la lb (pOf (la, lb)) w) := t_app hTf (ca (e_ldZ (n := 2) (i := i) agg_end siz_end [] [] (jj rfl) (fun w hb => h1.below hb) hel2 ⟨_, _, rfl, rfl, rfl, _, _, rfl, rfl, rfl, rfl⟩ rfl) (ca (e_spansZ hG (by omega) (by omega) rfl rfl rfl rfl za zb (by decide) rfl rfl rfl rfl) ce))
     refine wp_seq (cE hC hTc (x := .normal) (n := 30) (post := [.val 1 (op 4), .val 5 (op 2), .val 6 (op 3), .val 10 (op 0), .val 11 (op 1), .val 12 (op 5), .box 13 sT [.cls 13 4, .cls 14 4], .box 14 tT [.cls 15 3, .cls 16 3]]) (by kernel_rfl) hA (fun a w1 hA => ?_))
     have hCN := c2N_ok (M := bx.length) (rs := rs) (ps := (bx.take i).map pOf) (i := i) (la := la) (lb := lb) (p := pOf (la, lb)) (w := w) h1.one hS.o5.one hS.o6.one hS.o10.one hS.o11.one
     have hA : At (C2N v1 z5 z6 z10 z11 bx.length rs ((bx.take i).map pOf) i la lb (pOf (la, lb)) w) [.val 1 (op 4), .val 5 (op 2), .val 6 (op 3), .val 10 (op 0), .val 11 (op 1), .val 12 (op 5), .box 13 sT [.cls 13 4, .cls 14 4], .box 14 tT [.cls 15 3, .cls 16 3]] a w1 := at_reL hA [(0, 0), (1, 1), (2, 2), (3, 3), (4, 4), (5, 5), (13, 13), (14, 14), (15, 15), (16, 16)] (cH rfl <| cH rfl <| cH rfl <| cH rfl <| cH rfl <| cH rfl <| cH rfl <| cH rfl <| cH rfl <| cH rfl prs_nil) rfl rfl (fun k hk => by
      rw [List.flatMap_append] at hk
      simpa [clN] using hk)
     have hTd : ∀ t ∈ t2d, t.Valid (C2N v1 z5 z6 z10 z11 bx.length rs ((bx.take i).map pOf) i la lb (pOf (la, lb)) w) := ca (e_push und_s' inf_s rfl (by decide) (by decide) sep_s (by simp; omega) (st_s _ _) rfl rfl ⟨_, _, rfl, rfl, rfl, _, _, rfl, rfl, rfl, rfl⟩ rfl) (ca (e_push und_t' inf_t rfl (by decide) (by decide) sep_t (by simp; omega) (st_t _ _) rfl rfl ⟨_, _, rfl, rfl, rfl, _, _, rfl, rfl, rfl, rfl⟩ rfl) (ca (e_add (by omega) (pv rfl) jR (rv rfl) (by omega)) ce))
     refine cE hCN hTd (x := .normal) (n := 30) (post := [.val 1 (op 4), .val 5 (op 2), .val 6 (op 3), .val 10 (op 18), .val 11 (op 19), .val 12 (op 5)]) (by kernel_rfl) hA (fun a w1 hA => ?_)
     refine cE hCN hTd (x := .normal) (n := 30) (post := [.val 1 (op 4), .val 5 (op 2), .val 6 (op 3), .val 10 (op 18), .val 11 (op 19), .val 12 (op 17)]) (by kernel_rfl) hA (fun a w1 hA => ?_)
     obtain ⟨⟨u1, g1, e1⟩, ⟨u5, g5, e5⟩, ⟨u6, g6, e6⟩, ⟨u10, g10, e10⟩, ⟨u11, g11, e11⟩, ⟨u12, g12, e12⟩, _⟩ := hA.items
     rw [(cS rfl).1 e1] at g1
     rw [(jA rfl).1 e12] at g12
     rw [((jn rfl).1 e5).1] at g5
     rw [((jn rfl).1 e6).1] at g6
     have hmap : ∀ {β : Type} (f : Rat × Rat → β), ((bx.take (i + 1)).map pOf).map f = ((bx.take i).map pOf).map f ++ [f (pOf (la, lb))] := fun f => by
      rw [List.take_add_one, hli]; simp
     refine ⟨i + 1, ⟨hlt, fun x hx => ?_, z5, z6, u10, u11, ⟨hA.below, hA.defers, hA.size, g1, g5, g6, g10, g11, g12, ((jn rfl).1 e5).2, ((jn rfl).1 e6).2, ?_, ?_⟩⟩, by show bx.length - (i + 1) < bx.length - i; omega⟩
     · rw [List.take_add_one, hli] at hx
       simp at hx
       rcases hx with hx | rfl
       · exact hl x hx
       · exact ⟨by show la.length ≤ 60; omega, by show lb.length ≤ 60; omega⟩
     · rw [hmap]; exact (op_isN rfl).1 e10
     · rw [hmap]; exact (op_isN rfl).1 e11
 · obtain rfl : i = bx.length := by omega
   have hC := c2_ok (M := bx.length) (rs := rs) (ps := (bx.take bx.length).map pOf) (i := bx.length) (la := []) (lb := []) (p := (0, 0)) (w := w) h1.one hS.o5.one hS.o6.one hS.o10.one hS.o11.one
   have hA := hS.at (M := bx.length) (la := []) (lb := []) (p := (0, 0))
   have hTa : ∀ t ∈ t2a false, t.Valid (C2 v1 z5 z6 z10 z11 bx.length rs ((bx.take bx.length).map pOf) bx.length [] [] (0, 0) w) := ca (e_lenZ und_ends (pzW rfl h1) (by rw [L1]; exact rv rfl)) (ca (kj (pv rfl) (pv rfl) (decide_eq_false (by omega))) ce)
   refine wp_seq (cE hC hTa (x := .exit 2) (n := 30) (post := [.val 1 (op 4), .val 5 (op 2), .val 6 (op 3), .val 10 (op 0), .val 11 (op 1), .val 12 (op 5)]) (by kernel_rfl) hA (fun a w1 hA => ?_))
   show R.wp Tryz.prog (bodyPost Tryz.prog Tryz.f8 (LF w)) a w1
   obtain ⟨⟨u1, g1, e1⟩, ⟨u5, g5, e5⟩, ⟨u6, g6, e6⟩, ⟨u10, g10, e10⟩, ⟨u11, g11, e11⟩, ⟨u12, g12, e12⟩, _⟩ := hA.items
   rw [(cS rfl).1 e1] at g1
   rw [(jA rfl).1 e12] at g12
   rw [((jn rfl).1 e5).1] at g5
   rw [((jn rfl).1 e6).1] at g6
   rw [((jn rfl).1 e10).1] at g10
   rw [((jn rfl).1 e11).1] at g11
   have o10 := ((jn rfl).1 e10).2
   have o11 := ((jn rfl).1 e11).2
   rw [List.take_length] at o10 o11 hl
   exact hQ z5 z6 z10 z11 a w1 hl ⟨hA.below, hA.defers, hA.size, g1, g5, g6, g10, g11, g12, ((jn rfl).1 e5).2, ((jn rfl).1 e6).2, o10, o11⟩
end
end Sym
open Go Go.RowKit Go.Proofs Lim
namespace Sym
def clPO (B t n : Nat) (z : Value) (es : List (List Cl)) (ne : World → List Value → Prop) (j : Nat) : Cl := ⟨z.ownBlock.toList.map (fun g => ⟨g, es.length * n, n, t, ne⟩), 1, true, fun w f => f 0 = jI z j ∧ OwnL B t n w z es⟩
section
variable {B t n j : Nat} {z : Value} {es : List (List Cl)} {ne : World → List Value → Prop}
theorem clPO_ok {okT : List Nat} {B0 : Nat} (ht : ∀ t ∈ okT, sepT t) : (clPO B t n z es ne j).Ok okT B0 := by
 refine ⟨fun w w' f hb h => ⟨h.1, h.2.below hb⟩, fun w w' R f cs t' _ hR ho hm hz _ hb h => ⟨h.1, h.2.only ho (ht _ hm) hz (fun e => hR ?_) hb⟩, fun w f _ h => by rw [h.1]; unfold jI; split <;> rfl, ?_⟩
 · simp [clPO, e]
 · intro w f k h hj
   have hj : k < 1 := hj
   obtain rfl : k = 0 := by omega
   rw [h.1]; exact jy _ _
theorem clPO_L {g : Gw} (h : g ∈ (clPO B t n z es ne j).L) : g.t = t ∧ g.m = es.length * n ∧ g.n = n ∧ g.e = ne := by
 simp only [clPO, List.mem_map] at h
 obtain ⟨k, _, rfl⟩ := h
 exact ⟨rfl, rfl, rfl, rfl⟩
theorem gr_P {L : List Gw} (hL : ∀ g ∈ L, g.t ≠ t ∨ g.m = es.length * n) : (clPO B t n z es ne j).Grows L := fun g hg w w' f hw h => ⟨h.1, h.2.grew hw (hL g hg)⟩
variable {csz : List Nat} {numc : List Bool} {okT : List Nat} {nt : Nat} {cl : List Cl} {w0 : World} {w : World} {v : Value} {p1 p2 : jQ} {c a i : Nat} {pre mid post : List Cl}
theorem op_isP (h : cl[c]? = some (clPO B t n z es ne j)) : (op c).is (mkC csz numc okT nt cl w0) w v ↔ v = jI z j ∧ OwnL B t n w z es :=
 op_isC h rfl (fun w f g e hp => ⟨e ▸ hp.1, hp.2⟩)
theorem e_ixO {T : Nat} (ht : Tryz.prog.underlying T = some (.slice (Tryz.prog.elem T))) (he : (Tryz.prog.info? (Tryz.prog.elem T)).map (·.size) = some n) (h1 : cl[a]? = some (clO B t n z es ne)) (h2 : PV csz numc okT nt cl w0 p2 (ii (i : Int))) (hi : i < es.length) (h3 : cl[c]? = some (clPO B t n z es ne (i * n))) : V csz numc okT nt cl w0 (.ix T) [op a, p2] (.val (op c)) := by
 intro w ρ oo xs ho hb hvs
 obtain ⟨a', b', hop, rfl⟩ := hd_ix ho
 obtain ⟨v1, _, e1, h4, v2, _, e2, h5, e3⟩ := hvs
 obtain ⟨rfl, hown⟩ := (jn h1).1 h4
 obtain rfl := h2 _ _ h5
 subst e2
 simp only [List.map_cons, List.map_nil, List.cons.injEq] at e1
 obtain ⟨ea, eb, _⟩ := e1
 have hown0 := hown
 obtain ⟨_, ao, cap, hv, h6, h7, h8⟩ := hown.ls
 obtain ⟨k, off, rfl, hr⟩ := h8 (by omega)
 obtain ⟨inf, hinf, hsz⟩ := Option.map_eq_some_iff.1 he
 refine ⟨jI v1 (i * n), w, ?_, (op_isP h3).2 ⟨rfl, hown0⟩, Below.refl _ _⟩
 subst hv
 show (execOp ρ oo).run Tryz.prog w = _
 have hs : (sizeOf (Tryz.prog.elem T)).run Tryz.prog w = .ok n w := by rw [← hsz]; exact jP hinf w
 simp only [execOp, hop, ea, eb, Sem.run_bind, run_indexAt_slice _ _ _ _ _ _ _ ht]
 rw [if_pos (by omega)]
 simp [hs, Result.andThen, jo, jI]
theorem e_ldO {T m : Nat} {gs : List Grp} (ht : (Tryz.prog.underlying T).map isAggD = some true) (hz : (Tryz.prog.info? T).map (·.size) = some m) (pre post : List Cl) (h1 : cl[c]? = some (clPO B t n z es ne (i * n + elN pre))) (hi : es[i]? = some (pre ++ mid ++ post)) (hr : Res cl gs mid) (hm : elN mid = m) : V csz numc okT nt cl w0 (.ld T) [op c] (.val (.agg gs)) := by
 subst hm
 intro w ρ oo xs ho hb hvs
 obtain ⟨a, hop, rfl⟩ := hd_ld ho
 obtain ⟨v1, _, e1, h4, e2⟩ := hvs
 obtain ⟨rfl, hown⟩ := (op_isP h1).1 h4
 subst e2
 simp only [List.map_cons, List.map_nil, List.cons.injEq] at e1
 obtain ⟨ea, _⟩ := e1
 obtain ⟨b, off, cp, ws, rfl, g1, g2⟩ := hown.ls.part hi
 obtain ⟨d, hd, hagg⟩ := Option.map_eq_some_iff.1 ht
 obtain ⟨inf, hinf, hsz⟩ := Option.map_eq_some_iff.1 hz
 refine ⟨.agg ws.toArray, w, ?_, ⟨ws, res_are hr g1, rfl⟩, Below.refl _ _⟩
 show (execOp ρ oo).run Tryz.prog w = _
 have := run_loadCells_list (P := Tryz.prog) (w := w) ⟨b, off + (i * n + elN pre), none⟩ ws (fun j v hj => by rw [jo]; exact g2 j v hj)
 rw [show ws.length = inf.size by rw [hsz, g1.length]] at this
 simp [execOp, hop, ea, jI, Instr.loadAt, Instr.sureAddr, loadVar, jW hd, hagg, jP hinf, this]
end
end Sym
end Go.Proofs.YtccabfblgjcboaaGreatDoor
