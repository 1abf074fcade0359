/- Package exact: ListsP LawForms FrameSl ListsO Frozen LawForms2 ValE FrameBs LawValues LawValues2. -/
import Derived.Test.YtccabfblgjcboaaGreatDoorV23
import Derived.Test.YtccabfblgjcboaaGreatDoorV27
import Derived.Test.YtccabfblgjcboaaGreatDoorV24
import Derived.Test.YtccabfblgjcboaaGreatDoorV1
import Derived.SliceStrings
import Derived.Deep.Slices
set_option linter.all false

namespace Go.Proofs.YtccabfblgjcboaaGreatDoor
open Go Go.RowKit Go.Proofs Lim
namespace Sym
section
variable {csz : List Nat} {numc : List Bool} {okT : List Nat} {nt : Nat} {cl : List Cl} {w0 : World} {w : World} {c i j : Nat} {es : List (List Cl)} {e : List Cl}
theorem first_of {n : Nat} {cs : List Value} (hn : 0 < n) (he : ∀ x ∈ e, x.St) (h : jp w e ((cs.drop (0 * n)).take n)) : ∀ x, cs[0]? = some x → noSl x = true := by
 intro x hx
 refine h.first he x ?_
 rw [Nat.zero_mul, List.drop_zero, List.getElem?_take, if_pos hn]
 exact hx
theorem e_push {t n T bytes : Nat} {z z0 : Value} {gs : List Grp} (hu : Tryz.prog.underlying T = some (.slice t)) (hi : (Tryz.prog.info? t).map (fun i => (i.zero, i.size, i.bytes)) = some (some z0, n, bytes)) (hz0 : z0.cells.size = n) (hn : 0 < n) (hby : bytes ≤ 1000) (ht : sepT t)
 (hl : es.length < 1000000) (he : ∀ x ∈ e, x.St) (hen : elN e = n) (hci : cl[i]? = some (clO w0.heap.size t n z es (fun w vs => jp w e vs))) (hr : Res cl gs e) (hcj : cl[j]? = some (clN w0.heap.size t n (es ++ [e]))) :
 V csz numc okT nt cl w0 (.blt .append [T, T] T) [op i, .slc t 1 gs] (.val (op j)) := by
 intro w ρ oo xs ho hb hvs
 obtain ⟨c, hop, hc, hat, hty, rfl⟩ := hd_blt ho
 obtain ⟨v1, _, e1, h4, v2, _, e2, ⟨b, vs, rfl, hvb, hg⟩, e3⟩ := hvs
 subst e2
 subst e3
 obtain ⟨rfl, hown⟩ := (op_isO hci).1 h4
 have hv := are_res hr hg
 have hvl : vs.length = n := hv.length.trans hen
 have hv1 := hv.one he
 obtain ⟨inf, hinf, hp⟩ := Option.map_eq_some_iff.1 hi
 simp only [Prod.mk.injEq] at hp
 obtain ⟨q1, q2, q3⟩ := hp
 have hnews : ∀ k u, vs[k]? = some u → w.cell? ((⟨b, 0, none⟩ : Addr).add k) = some u := fun k u hk => by rw [jh]; simpa [World.cell?, hvb] using hk
 have hown0 := hown
 obtain ⟨hs, hnb, cs, hrow, hel⟩ := hown
 have hml : es.length + 1 ≤ maxLen := by simp only [maxLen]; omega
 have hbb : (es.length + 1) * bytes ≤ 140737488355328 := Nat.le_trans (Nat.mul_le_mul (show es.length + 1 ≤ 1000000 by omega) hby) (by decide)
 obtain ⟨v', w', hrun, hrow', hgr, _⟩ := run_append_own (P := Tryz.prog) w w0.heap.size T T t inf z0 n bytes hu hinf q1 q2 q3 hz0 hn v1 es.length cs hrow ⟨b, 0, none⟩ 1 1 vs (by rw [hvl, Nat.one_mul]) hnews hv1 hml hbb hb.size
 have hex : (execOp ρ oo).run Tryz.prog w = .ok (.value v') w' := by
  have he : c.args.map ρ = #[v1, Value.slice (some ⟨b, 0, none⟩) 1 1] := by
   apply Array.ext'
   simpa using e1
  simp only [execOp, hop, resolve, hc, he, Sem.run_bind, Sem.run_pure, Result.andThen_ok, invoke, builtin, hat, hty, hrun]
 have hlen : cs.length = es.length * n := hrow.1
 have hstep : (Below w.heap.size w w') ∨ (∃ g cur, v1.ownBlock = some g ∧ w.heap[g]? = some (.cells cur t (0, 0)) ∧ es.length * n + n ≤ cur.size ∧ w'.heap[g]? = some (.cells (cur.toList.take (es.length * n) ++ vs ++ cur.toList.drop (es.length * n + n)).toArray t (0, 0)) ∧ cN g w w') := by
  rcases hrow.2 with ⟨rfl, h0⟩ | ⟨g, cap, cur, rfl, hbg, hgc, hnc, hcm, hcs, htake⟩
  · have := run_append_nil (P := Tryz.prog) w T T t inf z0 hu hinf q1 ⟨b, 0, none⟩ 1 1 vs (by rw [q2, hvl, Nat.one_mul]) hnews (by omega) (by omega) (by rw [q3]; omega)
    rw [this] at hrun
    injection hrun with r1 r2
    left
    rw [← r2]
    exact (Below.refl _ w).drew.alloc (Nat.le_refl _) _
  · by_cases hroom : es.length + 1 ≤ cap
    · have hfit : es.length * n + n ≤ cur.size := by rw [hcs, show es.length * n + n = (es.length + 1) * n by rw [Nat.add_mul, Nat.one_mul]]; exact Nat.mul_le_mul_right _ hroom
      have := run_append_room (P := Tryz.prog) w T T t inf hu hinf g es.length cap cur hgc ⟨b, 0, none⟩ 1 1 vs (by rw [q2, hvl, Nat.one_mul]) hnews hv1 hroom (by rw [q2, hvl]; exact hfit)
      rw [this] at hrun
      injection hrun with r1 r2
      rw [q2, hvl] at r2
      right
      refine ⟨g, cur, rfl, hgc, hfit, ?_, ?_⟩
      · rw [← r2]; exact setRow_heap w g cur _ t _ hgc
      · rw [← r2]
        exact ⟨rfl, rfl, rfl, by simp, fun k hk => setRow_other w g k _ hk⟩
    · have := run_append_grow (P := Tryz.prog) w T T t inf z0 hu hinf q1 ⟨g, 0, none⟩ es.length cap cs (by rw [q2]; exact hlen) (hrow.cells (g := g) rfl) ⟨b, 0, none⟩ 1 1 vs (by rw [q2, hvl, Nat.one_mul]) hnews (by omega) (by omega) (growslice_fits (by omega) (by rw [q3]; exact hbb))
      rw [this] at hrun
      injection hrun with r1 r2
      left
      rw [← r2]
      exact (Below.refl _ w).drew.alloc (Nat.le_refl _) _
 have hmono : ∀ x : Cl, x.St → ∀ f, x.p w f → x.p w' f := by
  intro x hx f hp
  rcases hstep with h | ⟨g, cur, g1, g2, _, _, g5⟩
  · exact hx.below w w' f h hp
  · exact hx.only g w w' f cur t g2 ht (hnb g g1 cur g2) g5 hp
 have hel' : ∀ i e', es[i]? = some e' → jp w' e' ((cs.drop (i * n)).take n) := fun i e' hi => (hel i e' hi).mono (fun x hx f hp => hmono x (hs e' (List.mem_of_getElem? hi) x hx) f hp)
 have hve : jp w' e vs := hv.mono (fun x hx f hp => hmono x (he x hx) f hp)
 have hs' : ∀ e' ∈ es ++ [e], ∀ x ∈ e', x.St := fun e' h' x hx => by
  rcases List.mem_append.1 h' with h | h
  · exact hs e' h x hx
  · have : e' = e := by simpa using h
    subst this; exact he x hx
 have hels := els_snoc hlen hvl hel' hve
 refine ⟨v', w', hex, (op_isN hcj).2 ⟨hs', ?_, cs ++ vs, by simpa using hrow', hels⟩, ?_⟩
 · intro g hg cur hgc x hx
   obtain ⟨e0, he0⟩ : ∃ e0, (es ++ [e])[0]? = some e0 := ⟨(es ++ [e])[0]'(by simp), List.getElem?_eq_getElem _⟩
   have h0 := hels 0 e0 he0
   refine first_of hn (hs' e0 (List.mem_of_getElem? he0)) h0 x ?_
   rcases hrow'.2 with ⟨rfl, h1⟩ | ⟨g', cap, cur', rfl, _, hgc', hnc, _, hsz, ht'⟩
   · exact (Nat.succ_ne_zero _ h1).elim
   · have : g' = g := by simpa [Value.ownBlock] using hg
     subst this
     have e9 : cur = cur' := (Obj.cells.inj (Option.some.inj (hgc.symm.trans hgc'))).1
     subst e9
     rw [← ht', List.getElem?_take, if_pos (Nat.mul_pos (by omega) hn)]
     simpa using hx
 · rcases hstep with h | ⟨g, cur, g1, g2, g3, g4, g5⟩
   · exact .inl h
   · refine .inr ⟨⟨g, es.length * n, n, t, fun w vs => jp w e vs⟩, List.mem_flatMap.2 ⟨_, List.mem_of_getElem? hci, ?_⟩, cur, vs, g2, ht, hnb g g1 cur g2, hvl, g3, hv.first he, g4, hve, g5⟩
     simp [clO, g1]
theorem e_mk0 {T t n bytes : Nat} {z0 : Value} (hu : Tryz.prog.underlying T = some (.slice t)) (hi : (Tryz.prog.info? t).map (fun i => (i.zero, i.size, i.bytes)) = some (some z0, n, bytes)) (hcj : cl[j]? = some (clN w0.heap.size t n [])) :
 V csz numc okT nt cl w0 (.bs T 0) [] (.val (op j)) := by
 intro w ρ oo xs ho hb hvs
 obtain ⟨parts, hop, hp, rfl⟩ := hd_bs ho
 have hp0 : parts = #[] := by
  have hm : (parts.toList.map (·.2)).map ρ = [] := hvs
  have : parts.toList = [] := by simpa using hm
  exact Array.eq_empty_of_size_eq_zero (by rw [← Array.length_toList, this]; rfl)
 subst hp0
 obtain ⟨inf, hinf, hq⟩ := Option.map_eq_some_iff.1 hi
 simp only [Prod.mk.injEq] at hq
 obtain ⟨q1, q2, q3⟩ := hq
 refine ⟨.slice (some ⟨w.heap.size, 0, none⟩) 0 0, w.alloc (.cells #[] t), ?_, (op_isN hcj).2 (jr.fresh (heap_alloc_new w _) hb.size), (Below.refl _ w).alloc (Nat.le_refl _) _⟩
 have hr : (Instr.buildSlice T 0 #[]).run Tryz.prog w = .ok (.slice (some ⟨w.heap.size, 0, none⟩) 0 0) (w.alloc (.cells #[] t)) := by
  simp [Instr.buildSlice, run_underlying hu, run_size hinf, Instr.fill, newRow]
  rw [show Array.map (fun _ : Nat => (default : Value)) (Array.range 0) = #[] from Array.eq_empty_of_size_eq_zero (by rw [Array.size_map, Array.size_range])]
 show (execOp ρ oo).run Tryz.prog w = _
 unfold execOp
 simp only [hop, Array.map_empty, List.map_toArray, List.map_nil, Sem.run_bind, hr, Result.andThen_ok]
 rfl
end
end Sym
open Go Go.RowKit Go.Proofs Lim
namespace Sym
def LimOk (w0 w : World) (cl : List Cl) : Prop := ∀ x ∈ cl, ∀ g ∈ x.L, w0.heap.size ≤ g.R ∧ g.R < w.heap.size
theorem lim_rest {w0 w : World} {cl : List Cl} (h : cl.flatMap (·.L) = []) : LimOk w0 w cl := fun x hx g hg => by
 have : g ∈ cl.flatMap (·.L) := List.mem_flatMap.2 ⟨x, hx, hg⟩
 rw [h] at this
 simp at this
theorem lim_O {w0 w : World} {t n : Nat} {z : Value} {es : List (List Cl)} {ne : World → List Value → Prop} {cl : List Cl} (h : jr w0.heap.size t n w z es) (k : LimOk w0 w cl) : LimOk w0 w (clO w0.heap.size t n z es ne :: cl) := fun x hx g hg => by
 rcases List.mem_cons.1 hx with rfl | hx
 · simp only [clO, List.mem_map, Option.mem_toList] at hg
   obtain ⟨b, hb, rfl⟩ := hg
   exact h.lt b hb
 · exact k x hx g hg
theorem lim_at {csz : List Nat} {numc : List Bool} {okT : List Nat} {nt : Nat} {cl : List Cl} {w0 w : World} (h : LimOk w0 w cl) : ∀ k ∈ (mkC csz numc okT nt cl w0).L, (mkC csz numc okT nt cl w0).w0.heap.size ≤ k ∧ k < w.heap.size := fun k hk => by
 obtain ⟨g, hg, rfl⟩ := List.mem_map.1 (show k ∈ (cl.flatMap (·.L)).map (·.R) from hk)
 obtain ⟨x, hx, hg⟩ := List.mem_flatMap.1 hg
 exact h x hx g hg
theorem grs_nil {L : List Gw} : ∀ x ∈ ([] : List Cl), x.Grows L := fun t h => by simp at h
theorem cn {L : List Gw} {a : Cl} {l : List Cl} (h : a.Grows L) (k : ∀ t ∈ l, t.Grows L) : ∀ t ∈ a :: l, t.Grows L := fun t ht => by
 rcases List.mem_cons.1 ht with rfl | ht
 · exact h
 · exact k t ht
theorem mem_O {x : Cl} {l : List Cl} {P : Gw → Prop} (h : ∀ g ∈ x.L, P g) (k : ∀ g ∈ l.flatMap (·.L), P g) : ∀ g ∈ (x :: l).flatMap (·.L), P g := fun g hg => by
 rw [List.flatMap_cons] at hg
 exact (List.mem_append.1 hg).elim (h g) (k g)
theorem mem_R {l : List Cl} {P : Gw → Prop} (h : l.flatMap (·.L) = []) : ∀ g ∈ l.flatMap (·.L), P g := fun g hg => by rw [h] at hg; simp at hg
theorem sepS : ∀ t ∈ okS, sepT t := by unfold sepT; decide
theorem gr_Q {L : List Gw} (r : Rat) (k : Nat) : (cQ r k).Grows L := gr_st (clQ_st r k)
abbrev elTx (l : List UInt8) : List Cl := [clV (str l)]
abbrev elE (p : List UInt8 × List UInt8) : List Cl := [clV (str p.1), clV (str p.2)]
abbrev nOf (l : List UInt8) : Rat := (readQ l).1
abbrev qT : Nat := 26
abbrev rT : Nat := 33
abbrev sT : Nat := 66
abbrev tT : Nat := 68
abbrev nxt (e : List Cl) : World → List Value → Prop := fun w vs => jp w e vs
section
variable {v0 v1 z5 z6 : Value} {N i : Nat} {rs : List Rat} {l : List UInt8} {r : Rat} {w : World}
theorem noN {l : List Nat} (h : l = []) : ∀ t ∈ l, sepT t := fun t ht => by rw [h] at ht; simp at ht
theorem st_q (r : Rat) (k : Nat) : ∀ x ∈ elQ k r, x.St := st_cons (clQ_st r k) st_nil
end
abbrev strsT : Nat := 89
abbrev endsT : Nat := 90
abbrev intT : Nat := 3
theorem und_strs : Tryz.prog.underlying strsT = some (.slice (Tryz.prog.elem strsT)) := by kernel_rfl
theorem und_ends : Tryz.prog.underlying endsT = some (.slice (Tryz.prog.elem endsT)) := by kernel_rfl
theorem siz_strs : (Tryz.prog.info? (Tryz.prog.elem strsT)).map (·.size) = some 1 := by kernel_rfl
theorem siz_ends : (Tryz.prog.info? (Tryz.prog.elem endsT)).map (·.size) = some 2 := by kernel_rfl
theorem agg_str : (Tryz.prog.underlying 9).map isAggD = some false := by kernel_rfl
theorem inf_q : (Tryz.prog.info? qT).map (fun i => (i.zero, i.size, i.bytes)) = some (some (.agg #[.bool false, .int .u64 0, .int .u64 0, .pointer none]), 4, 32) := by kernel_rfl
theorem inf_s : (Tryz.prog.info? sT).map (fun i => (i.zero, i.size, i.bytes)) = some (some (.agg #[.bool false, .int .u64 0, .int .u64 0, .pointer none, .bool false, .int .u64 0, .int .u64 0, .pointer none]), 8, 64) := by kernel_rfl
theorem sep_q : sepT qT := by unfold sepT; decide
theorem sep_s : sepT sT := by unfold sepT; decide
theorem und_q' : Tryz.prog.underlying 91 = some (.slice qT) := by kernel_rfl
theorem und_s' : Tryz.prog.underlying 93 = some (.slice sT) := by kernel_rfl
structure S1 (w0 : World) (v0 v1 : Value) (rs : List Rat) (i : Nat) (z5 z6 : Value) (a : Act) (w : World) : Prop where
 below : Below w0.heap.size w0 w
 defers : a.defers = []
 size : a.tmps.size = 211
 t0 : a.tmps[0]? = some v0
 t1 : a.tmps[1]? = some v1
 t5 : a.tmps[5]? = some z5
 t6 : a.tmps[6]? = some z6
 t7 : a.tmps[7]? = some (ii (i : Int))
 o5 : jr w0.heap.size qT 4 w z5 (rs.map (elQ 4))
 o6 : jr w0.heap.size rT 3 w z6 (rs.map (elR 4))
abbrev LF (w : World) : Ending → World → Prop := Go.Proofs.YtccabfblgjcboaaGreatDoor.Val w (.bool true)
section
variable {w : World} {v0 v1 : Value} {ls : List (List UInt8)}
end
end Sym
open Go Go.RowKit Go.Proofs Lim
open Go.ChangeShapes Go.WideShapes Go.ChangeAt Go.ChangeMaps
namespace Sym
theorem lst_of {α : Type} (d : α) (n : Nat) {w : World} {len cap : Nat} {a : Option Addr} (el : α → List Cl) (hst : ∀ x, ∀ y ∈ el x, y.St) (hc : len ≤ cap) (hm : cap ≤ maxLen)
 (h : ∀ i, i < len → ∃ x b off vs, a = some ⟨b, off, none⟩ ∧ vs.length = n ∧ (∀ j u, vs[j]? = some u → w.cell? ⟨b, off + (i * n + j), none⟩ = some u) ∧ jp w (el x) vs) : ∃ xs : List α, xs.length = len ∧ Ls n w (.slice a len cap) (xs.map el) := by
 obtain ⟨f, hf⟩ : ∃ f : Nat → α, ∀ i, i < len → ∃ b off vs, a = some ⟨b, off, none⟩ ∧ vs.length = n ∧ (∀ j u, vs[j]? = some u → w.cell? ⟨b, off + (i * n + j), none⟩ = some u) ∧ jp w (el (f i)) vs := by
  have : ∀ i, ∃ x, i < len → ∃ b off vs, a = some ⟨b, off, none⟩ ∧ vs.length = n ∧ (∀ j u, vs[j]? = some u → w.cell? ⟨b, off + (i * n + j), none⟩ = some u) ∧ jp w (el x) vs := fun i => by
   by_cases hi : i < len
   · obtain ⟨x, hx⟩ := h i hi
     exact ⟨x, fun _ => hx⟩
   · exact ⟨d, fun h => absurd h hi⟩
  exact ⟨fun i => Classical.choose (this i), fun i hi => Classical.choose_spec (this i) hi⟩
 refine ⟨(List.range len).map f, by simp, fun e he => ?_, a, cap, by simp, by simpa using hc, by simp only [maxLen] at hm; omega, fun hn => ?_⟩
 · obtain ⟨x, _, rfl⟩ := List.mem_map.1 he
   exact hst x
 · have hn : 0 < len := by simpa using hn
   obtain ⟨b, off, _, ha, _⟩ := hf 0 hn
   refine ⟨b, off, ha, fun i e hi => ?_⟩
   have hil : i < len := by
    have := (List.getElem?_eq_some_iff.1 hi).1
    simpa using this
   obtain ⟨b', off', vs, ha', g1, g2, g3⟩ := hf i hil
   rw [ha] at ha'
   injection ha' with ha'
   injection ha' with e1 e2
   subst e1 e2
   have : e = el (f i) := by
    rw [List.getElem?_map, List.getElem?_map, List.getElem?_range hil] at hi
    simpa using hi.symm
   subst this
   exact ⟨vs, g1, g2, g3⟩
theorem cell_spot {w : World} {a : Addr} {v : Value} (h : w.cell? a = some v) : a = ⟨a.block, a.off, none⟩ := by
 unfold World.cell? at h
 split at h
 · split at h
   · cases h
   · rename_i hs
     obtain ⟨b, o, s⟩ := a
     cases s with
     | none => rfl
     | some x => simp at hs
 · cases h
theorem add_zero_spot {w : World} {a : Addr} {v : Value} (h : w.cell? (a.add 0) = some v) : ∃ b o, a = ⟨b, o, none⟩ := by
 have h : w.cell? a = some v := by simpa [Addr.add] using h
 exact ⟨_, _, cell_spot h⟩
section
variable {H : Type} {enc : TypeId × Value → H} {W : World} {base : Nat}
set_option maxRecDepth 100000 in
theorem open_texts {v : Value} {d : DataW H} {p : List MemPlace} (hv : Value.okWide Tryz.prog W .any base strsT v) (hT : DataW.Trod enc Tryz.prog W 0 (fun _ => true) true strsT v d p) : ∃ ls : List (List UInt8), Ls 1 W v (ls.map elTx) := by
 obtain ⟨a0, len, cap, rfl⟩ := okWide_slice Tryz.underlying89 hv
 obtain ⟨fuel, hf⟩ := hT
 rcases open_strings Tryz.underlying89 Tryz.underlying9 (by kernel_rfl) hf with ⟨h, _⟩ | ⟨a, len', cap', ss, h, _, hl, hm, hlen, _, hc, _⟩
 · have h : [Value.slice a0 len cap] = [.slice none 0 0] := h
   injection h with h
   injection h with e1 e2 e3
   subst e1 e2 e3
   obtain ⟨xs, _, hx⟩ := lst_of (w := W) ([] : List UInt8) 1 (a := none) (len := 0) (cap := 0) elTx (fun l => st_cons (clV_st rfl rfl) st_nil) (Nat.le_refl _) (by decide) (fun i hi => by omega)
   exact ⟨xs, hx⟩
 · have h : [Value.slice a0 len cap] = [.slice (some a) len' cap'] := h
   injection h with h
   injection h with e1 e2 e3
   subst e1 e2 e3
   have hsl : len ≤ ss.length := by rw [hlen]; simp; exact hl
   have hsp : 0 < len → ∃ b o, a = ⟨b, o, none⟩ := fun h => add_zero_spot (hc 0 (by omega))
   obtain ⟨xs, _, hx⟩ := lst_of (w := W) ([] : List UInt8) 1 (a := some a) (len := len) (cap := cap) elTx (fun l => st_cons (clV_st rfl rfl) st_nil) hl hm (fun i hi => by
    have hci := hc i (by omega)
    obtain ⟨b, o, rfl⟩ := hsp (by omega)
    rw [jh] at hci
    refine ⟨(ss.getD i ByteArray.empty).data.toList, b, o, [.string (ss.getD i ByteArray.empty)], rfl, rfl, fun j u hj => ?_, ⟨_, [], rfl, ⟨fun _ => .string (ss.getD i ByteArray.empty), rfl, rfl⟩, rfl⟩⟩
    cases j with
    | zero =>
     have : u = .string (ss.getD i ByteArray.empty) := by simpa using hj.symm
     subst this
     rw [Nat.mul_one, Nat.add_zero]
     exact hci
    | succ j => simp at hj)
   exact ⟨xs, hx⟩
set_option maxRecDepth 100000 in
theorem open_boxes {v : Value} {d : DataW H} {p : List MemPlace} (hv : Value.okWide Tryz.prog W .any base endsT v) (hT : DataW.Trod enc Tryz.prog W 0 (fun _ => true) true endsT v d p) : ∃ bx : List (List UInt8 × List UInt8), Ls 2 W v (bx.map elE) := by
 obtain ⟨a0, len, cap, rfl⟩ := okWide_slice Tryz.underlying90 hv
 obtain ⟨fuel, hf⟩ := hT
 rcases Deep.open_slice Tryz.underlying90 hf with ⟨h, _⟩ | ⟨a, len', cap', m, n, D, Pl, h, _, hl, hm, hmm, _, hc⟩
 · have h : [Value.slice a0 len cap] = [.slice none 0 0] := h
   injection h with h
   injection h with e1 e2 e3
   subst e1 e2 e3
   obtain ⟨xs, _, hx⟩ := lst_of (w := W) (([], []) : List UInt8 × List UInt8) 2 (a := none) (len := 0) (cap := 0) elE (fun l => st_cons (clV_st rfl rfl) (st_cons (clV_st rfl rfl) st_nil)) (Nat.le_refl _) (by decide) (fun i hi => by omega)
   exact ⟨xs, hx⟩
 · have h : [Value.slice a0 len cap] = [.slice (some a) len' cap'] := h
   injection h with h
   injection h with e1 e2 e3
   subst e1 e2 e3
   have hsl : len ≤ m := by rw [hmm]; simp; exact hl
   have hce : Tryz.prog.cellsOf 64 = 2 := by kernel_rfl
   rw [hce] at hc
   have hsp : 0 < len → ∃ b o, a = ⟨b, o, none⟩ := fun h => by
    obtain ⟨cs, hci, _⟩ := hc 0 (by omega)
    obtain ⟨_, hlen, hcell⟩ := World.cells?_some hci
    obtain ⟨u, hu⟩ : ∃ u, cs[0]? = some u := ⟨cs[0]'(by omega), List.getElem?_eq_getElem _⟩
    have h0 := hcell 0 (by omega)
    rw [hu] at h0
    exact add_zero_spot (by simpa [Addr.add] using h0)
   obtain ⟨xs, _, hx⟩ := lst_of (w := W) (([], []) : List UInt8 × List UInt8) 2 (a := some a) (len := len) (cap := cap) elE (fun l => st_cons (clV_st rfl rfl) (st_cons (clV_st rfl rfl) st_nil)) hl hm (fun i hi => by
    obtain ⟨cs, hci, htr⟩ := hc i (by omega)
    obtain ⟨b, o, rfl⟩ := hsp (by omega)
    obtain ⟨s, t, rfl⟩ := open_ends htr
    obtain ⟨_, _, hcell⟩ := World.cells?_some hci
    refine ⟨(s.data.toList, t.data.toList), b, o, [.string s, .string t], rfl, rfl, fun j u hj => ?_, ⟨[.string s], [.string t], rfl, ⟨fun _ => .string s, rfl, rfl⟩, [.string t], [], rfl, ⟨fun _ => .string t, rfl, rfl⟩, rfl⟩⟩
    have hj2 : j < 2 := (List.getElem?_eq_some_iff.1 hj).1
    have := hcell j hj2
    rw [jh, jh, hj] at this
    rw [← Nat.add_assoc]
    exact this)
   exact ⟨xs, hx⟩
end
end Sym
open Go Go.RowKit Go.Proofs Lim
namespace Sym
section
variable {B t n j : Nat} {z : Value} {es : List (List Cl)} {ne : World → List Value → Prop}
variable {csz : List Nat} {numc : List Bool} {okT : List Nat} {nt : Nat} {cl : List Cl} {w0 : World} {w : World} {v : Value} {p1 p2 : jw} {c a i : Nat} {pre mid post : List Cl}
end
end Sym
open Go Go.RowKit Go.Proofs Lim
namespace Sym
def clBk (R t : Nat) (e : List Cl) : Cl := ⟨[], 1, true, fun w f => f 0 = .pointer (some ⟨R, 0, none⟩) ∧ (∀ x ∈ e, x.St) ∧ ∃ vs, w.heap[R]? = some (.cells vs.toArray t (0, 0)) ∧ jp w e vs⟩
def clX (B t n : Nat) (X : List Nat) (z : Value) (es : List (List Cl)) (ne : World → List Value → Prop) : Cl := ⟨z.ownBlock.toList.map (fun g => ⟨g, es.length * n, n, t, ne⟩), 1, false, fun w f => f 0 = z ∧ jr B t n w z es ∧ ∀ k ∈ X, z.ownBlock ≠ some k ∧ k < w.heap.size⟩
def clY (B t n : Nat) (X : List Nat) (es : List (List Cl)) : Cl := ⟨[], 1, false, fun w f => jr B t n w (f 0) es ∧ ∀ k ∈ X, (f 0).ownBlock ≠ some k⟩
section
variable {B t n R : Nat} {X : List Nat} {z : Value} {es : List (List Cl)} {e : List Cl} {ne : World → List Value → Prop}
theorem clBk_ok {B0 : Nat} : (clBk R t e).Ok [] B0 := by
 refine ⟨?_, fun w w' R f cs t' _ _ _ hm => by simp at hm, fun w f _ h => by rw [h.1]; rfl, ?_⟩
 · rintro w w' f hb ⟨h1, h2, vs, h3, h4⟩
   have hlt : R < w.heap.size := by
    rcases Nat.lt_or_ge R w.heap.size with h | h
    · exact h
    · rw [Array.getElem?_eq_none h] at h3; cases h3
   exact ⟨h1, h2, vs, (hb.block R hlt).trans h3, h4.mono (fun x hx f hp => (h2 x hx).below w w' f hb hp)⟩
 · intro w f j h hj
   have hj : j < 1 := hj
   obtain rfl : j = 0 := by omega
   rw [h.1]; rfl
theorem gr_Bk {L : List Gw} (hL : ∀ g ∈ L, g.R ≠ R) : (clBk R t e).Grows L := by
 rintro g hg w w' f hw ⟨h1, h2, vs, h3, h4⟩
 obtain ⟨cs, us, a1, a2, a3, _, _, _, _, _, ho⟩ := hw
 exact ⟨h1, h2, vs, (ho.block R (fun e => hL g hg e.symm)).trans h3, h4.mono (fun x hx f hp => (h2 x hx).only g.R w w' f cs g.t a1 a2 a3 ho hp)⟩
theorem clX_ok {B0 : Nat} (hz : z.oneCell' = true) : (clX B t n X z es ne).Ok [] B0 := by
 refine ⟨fun w w' f hb h => ⟨h.1, h.2.1.below hb, fun k hk => ⟨(h.2.2 k hk).1, Nat.lt_of_lt_of_le (h.2.2 k hk).2 hb.size⟩⟩, fun w w' R f cs t' _ _ _ hm => by simp at hm, fun _ _ h _ => absurd h (by simp [clX]), ?_⟩
 intro w f j h hj
 have hj : j < 1 := hj
 obtain rfl : j = 0 := by omega
 rw [h.1]; exact hz
theorem clY_ok {B0 : Nat} : (clY B t n X es).Ok [] B0 := by
 refine ⟨fun w w' f hb h => ⟨h.1.below hb, h.2⟩, fun w w' R f cs t' _ _ _ hm => by simp at hm, fun _ _ h _ => absurd h (by simp [clY]), ?_⟩
 intro w f j h hj
 have hj : j < 1 := hj
 obtain rfl : j = 0 := by omega
 exact h.1.one
theorem clX_L {g : Gw} (h : g ∈ (clX B t n X z es ne).L) : g.t = t ∧ g.m = es.length * n ∧ g.n = n ∧ g.e = ne := by
 simp only [clX, List.mem_map] at h
 obtain ⟨k, _, rfl⟩ := h
 exact ⟨rfl, rfl, rfl, rfl⟩
theorem clX_R {g : Gw} (h : g ∈ (clX B t n X z es ne).L) : z.ownBlock = some g.R := by
 simp only [clX, List.mem_map, Option.mem_toList] at h
 obtain ⟨k, hk, rfl⟩ := h
 exact hk
theorem gr_X {L : List Gw} (hL : ∀ g ∈ L, g.t ≠ t ∨ g.m = es.length * n) : (clX B t n X z es ne).Grows L := by
 intro g hg w w' f hw h
 have hs : w'.heap.size = w.heap.size := by
  obtain ⟨cs, us, a1, a2, a3, _, _, _, _, _, ho⟩ := hw
  exact ho.size
 exact ⟨h.1, h.2.1.grew hw (hL g hg), fun k hk => ⟨(h.2.2 k hk).1, by rw [hs]; exact (h.2.2 k hk).2⟩⟩
theorem gr_Y {L : List Gw} (hs : ∀ x ∈ e, x.St) (hL : ∀ g ∈ L, g.t ≠ t ∨ g.m = es.length * n ∧ g.n = n ∧ g.e = (fun w vs => jp w e vs)) : (clY B t n X (es ++ [e])).Grows L :=
 fun g hg w w' f hw h => ⟨gr_N hs hL g hg w w' f hw h.1, h.2⟩
variable {csz : List Nat} {numc : List Bool} {okT : List Nat} {nt : Nat} {cl : List Cl} {w0 : World} {w : World} {v : Value} {p1 p2 : jw} {c a i j : Nat}
theorem op_isBk (h : cl[c]? = some (clBk R t e)) : (op c).is (mkC csz numc okT nt cl w0) w v ↔ v = .pointer (some ⟨R, 0, none⟩) ∧ (∀ x ∈ e, x.St) ∧ ∃ vs, w.heap[R]? = some (.cells vs.toArray t (0, 0)) ∧ jp w e vs :=
 op_isC h rfl (fun w f g e hp => ⟨e ▸ hp.1, hp.2⟩)
theorem op_isX (h : cl[c]? = some (clX B t n X z es ne)) : (op c).is (mkC csz numc okT nt cl w0) w v ↔ v = z ∧ jr B t n w z es ∧ ∀ k ∈ X, z.ownBlock ≠ some k ∧ k < w.heap.size :=
 op_isC h rfl (fun w f g e hp => ⟨e ▸ hp.1, hp.2⟩)
theorem op_isY (h : cl[c]? = some (clY B t n X es)) : (op c).is (mkC csz numc okT nt cl w0) w v ↔ jr B t n w v es ∧ ∀ k ∈ X, v.ownBlock ≠ some k :=
 op_isC h rfl (fun w f g e hp => by show jr _ _ _ _ (g 0) _ ∧ ∀ k ∈ X, (g 0).ownBlock ≠ _; rw [← e]; exact hp)
theorem e_ldBk {T m : Nat} {gs : List Grp} (ht : (Tryz.prog.underlying T).map isAggD = some true) (hz : (Tryz.prog.info? T).map (·.size) = some m) (h1 : cl[c]? = some (clBk R t e)) (hr : Res cl gs e) (hm : elN e = m) : V csz numc okT nt cl w0 (.ld T) [op c] (.val (.agg gs)) := by
 subst hm
 intro w ρ oo xs ho hb hvs
 obtain ⟨a, hop, rfl⟩ := hd_ld ho
 obtain ⟨v1, _, e1, h4, e2⟩ := hvs
 obtain ⟨rfl, _, vs, h5, h6⟩ := (op_isBk h1).1 h4
 subst e2
 simp only [List.map_cons, List.map_nil, List.cons.injEq] at e1
 obtain ⟨ea, _⟩ := e1
 obtain ⟨d, hd, hagg⟩ := Option.map_eq_some_iff.1 ht
 obtain ⟨inf, hinf, hsz⟩ := Option.map_eq_some_iff.1 hz
 refine ⟨.agg vs.toArray, w, ?_, ⟨vs, res_are hr h6, rfl⟩, Below.refl _ _⟩
 show (execOp ρ oo).run Tryz.prog w = _
 have := run_loadCells_list (P := Tryz.prog) (w := w) ⟨R, 0, none⟩ vs (fun j v hj => by rw [jh, Nat.zero_add]; simpa [World.cell?, h5] using hj)
 rw [show vs.length = inf.size by rw [hsz, h6.length]] at this
 simp [execOp, hop, ea, Instr.loadAt, Instr.sureAddr, loadVar, run_isAggD hd, hagg, run_size hinf, this]
end
section
variable {csz : List Nat} {numc : List Bool} {okT : List Nat} {nt : Nat} {cl : List Cl} {w0 : World} {w : World} {c i j : Nat} {es : List (List Cl)} {e : List Cl}
theorem e_pushX {t n T bytes : Nat} {X : List Nat} {z z0 : Value} {gs : List Grp} (hu : Tryz.prog.underlying T = some (.slice t)) (hi : (Tryz.prog.info? t).map (fun i => (i.zero, i.size, i.bytes)) = some (some z0, n, bytes)) (hz0 : z0.cells.size = n) (hn : 0 < n) (hby : bytes ≤ 1000) (ht : sepT t)
 (hl : es.length < 1000000) (he : ∀ x ∈ e, x.St) (hen : elN e = n) (hci : cl[i]? = some (clX w0.heap.size t n X z es (fun w vs => jp w e vs))) (hr : Res cl gs e) (hcj : cl[j]? = some (clY w0.heap.size t n X (es ++ [e]))) :
 V csz numc okT nt cl w0 (.blt .append [T, T] T) [op i, .slc t 1 gs] (.val (op j)) := by
 intro w ρ oo xs ho hb hvs
 obtain ⟨c, hop, hc, hat, hty, rfl⟩ := hd_blt ho
 obtain ⟨v1, _, e1, h4, v2, _, e2, ⟨b, vs, rfl, hvb, hg⟩, e3⟩ := hvs
 subst e2
 subst e3
 obtain ⟨rfl, hown, hX⟩ := (op_isX hci).1 h4
 have hv := are_res hr hg
 have hvl : vs.length = n := hv.length.trans hen
 have hv1 := hv.one he
 obtain ⟨inf, hinf, hp⟩ := Option.map_eq_some_iff.1 hi
 simp only [Prod.mk.injEq] at hp
 obtain ⟨q1, q2, q3⟩ := hp
 have hnews : ∀ k u, vs[k]? = some u → w.cell? ((⟨b, 0, none⟩ : Addr).add k) = some u := fun k u hk => by rw [jh]; simpa [World.cell?, hvb] using hk
 have hown0 := hown
 obtain ⟨hs, hnb, cs, hrow, hel⟩ := hown
 have hml : es.length + 1 ≤ maxLen := by simp only [maxLen]; omega
 have hbb : (es.length + 1) * bytes ≤ 140737488355328 := Nat.le_trans (Nat.mul_le_mul (show es.length + 1 ≤ 1000000 by omega) hby) (by decide)
 obtain ⟨v', w', hrun, hrow', hgr, _⟩ := run_append_own (P := Tryz.prog) w w0.heap.size T T t inf z0 n bytes hu hinf q1 q2 q3 hz0 hn v1 es.length cs hrow ⟨b, 0, none⟩ 1 1 vs (by rw [hvl, Nat.one_mul]) hnews hv1 hml hbb hb.size
 have hex : (execOp ρ oo).run Tryz.prog w = .ok (.value v') w' := by
  have he : c.args.map ρ = #[v1, Value.slice (some ⟨b, 0, none⟩) 1 1] := by
   apply Array.ext'
   simpa using e1
  simp only [execOp, hop, resolve, hc, he, Sem.run_bind, Sem.run_pure, Result.andThen_ok, invoke, builtin, hat, hty, hrun]
 have hlen : cs.length = es.length * n := hrow.1
 have hstep : (Below w.heap.size w w' ∧ v'.ownBlock = some w.heap.size) ∨ (∃ g cur, v'.ownBlock = some g ∧ v1.ownBlock = some g ∧ w.heap[g]? = some (.cells cur t (0, 0)) ∧ es.length * n + n ≤ cur.size ∧ w'.heap[g]? = some (.cells (cur.toList.take (es.length * n) ++ vs ++ cur.toList.drop (es.length * n + n)).toArray t (0, 0)) ∧ cN g w w') := by
  rcases hrow.2 with ⟨rfl, h0⟩ | ⟨g, cap, cur, rfl, hbg, hgc, hnc, hcm, hcs, htake⟩
  · have := run_append_nil (P := Tryz.prog) w T T t inf z0 hu hinf q1 ⟨b, 0, none⟩ 1 1 vs (by rw [q2, hvl, Nat.one_mul]) hnews (by omega) (by omega) (by rw [q3]; omega)
    rw [this] at hrun
    injection hrun with r1 r2
    left
    rw [← r2, ← r1]
    exact ⟨(Below.refl _ w).drew.alloc (Nat.le_refl _) _, rfl⟩
  · by_cases hroom : es.length + 1 ≤ cap
    · have hfit : es.length * n + n ≤ cur.size := by rw [hcs, show es.length * n + n = (es.length + 1) * n by rw [Nat.add_mul, Nat.one_mul]]; exact Nat.mul_le_mul_right _ hroom
      have := run_append_room (P := Tryz.prog) w T T t inf hu hinf g es.length cap cur hgc ⟨b, 0, none⟩ 1 1 vs (by rw [q2, hvl, Nat.one_mul]) hnews hv1 hroom (by rw [q2, hvl]; exact hfit)
      rw [this] at hrun
      injection hrun with r1 r2
      rw [q2, hvl] at r2
      right
      refine ⟨g, cur, by rw [← r1]; rfl, rfl, hgc, hfit, ?_, ?_⟩
      · rw [← r2]; exact setRow_heap w g cur _ t _ hgc
      · rw [← r2]
        exact ⟨rfl, rfl, rfl, by simp, fun k hk => setRow_other w g k _ hk⟩
    · have := run_append_grow (P := Tryz.prog) w T T t inf z0 hu hinf q1 ⟨g, 0, none⟩ es.length cap cs (by rw [q2]; exact hlen) (hrow.cells (g := g) rfl) ⟨b, 0, none⟩ 1 1 vs (by rw [q2, hvl, Nat.one_mul]) hnews (by omega) (by omega) (growslice_fits (by omega) (by rw [q3]; exact hbb))
      rw [this] at hrun
      injection hrun with r1 r2
      left
      rw [← r2, ← r1]
      exact ⟨(Below.refl _ w).drew.alloc (Nat.le_refl _) _, rfl⟩
 have hmono : ∀ x : Cl, x.St → ∀ f, x.p w f → x.p w' f := by
  intro x hx f hp
  rcases hstep with ⟨h, _⟩ | ⟨g, cur, _, g1, g2, _, _, g5⟩
  · exact hx.below w w' f h hp
  · exact hx.only g w w' f cur t g2 ht (hnb g g1 cur g2) g5 hp
 have hel' : ∀ i e', es[i]? = some e' → jp w' e' ((cs.drop (i * n)).take n) := fun i e' hi => (hel i e' hi).mono (fun x hx f hp => hmono x (hs e' (List.mem_of_getElem? hi) x hx) f hp)
 have hve : jp w' e vs := hv.mono (fun x hx f hp => hmono x (he x hx) f hp)
 have hs' : ∀ e' ∈ es ++ [e], ∀ x ∈ e', x.St := fun e' h' x hx => by
  rcases List.mem_append.1 h' with h | h
  · exact hs e' h x hx
  · have : e' = e := by simpa using h
    subst this; exact he x hx
 have hels := els_snoc hlen hvl hel' hve
 have hXv : ∀ k ∈ X, v'.ownBlock ≠ some k := by
  intro k hk e
  rcases hstep with ⟨_, h⟩ | ⟨g, cur, h, g1, _⟩
  · rw [h] at e
    injection e with e
    have := (hX k hk).2
    omega
  · exact (hX k hk).1 (by rw [g1, ← h, e])
 refine ⟨v', w', hex, (op_isY hcj).2 ⟨⟨hs', ?_, cs ++ vs, by simpa using hrow', hels⟩, hXv⟩, ?_⟩
 · intro g hg cur hgc x hx
   obtain ⟨e0, he0⟩ : ∃ e0, (es ++ [e])[0]? = some e0 := ⟨(es ++ [e])[0]'(by simp), List.getElem?_eq_getElem _⟩
   have h0 := hels 0 e0 he0
   refine first_of hn (hs' e0 (List.mem_of_getElem? he0)) h0 x ?_
   rcases hrow'.2 with ⟨rfl, h1⟩ | ⟨g', cap, cur', rfl, _, hgc', hnc, _, hsz, ht'⟩
   · exact (Nat.succ_ne_zero _ h1).elim
   · have : g' = g := by simpa [Value.ownBlock] using hg
     subst this
     have e9 : cur = cur' := (Obj.cells.inj (Option.some.inj (hgc.symm.trans hgc'))).1
     subst e9
     rw [← ht', List.getElem?_take, if_pos (Nat.mul_pos (by omega) hn)]
     simpa using hx
 · rcases hstep with ⟨h, _⟩ | ⟨g, cur, _, g1, g2, g3, g4, g5⟩
   · exact .inl h
   · refine .inr ⟨⟨g, es.length * n, n, t, fun w vs => jp w e vs⟩, List.mem_flatMap.2 ⟨_, List.mem_of_getElem? hci, ?_⟩, cur, vs, g2, ht, hnb g g1 cur g2, hvl, g3, hv.first he, g4, hve, g5⟩
     simp [clX, g1]
end
end Sym
open Go Go.RowKit Go.Proofs Lim
namespace Sym
theorem st_s (p : Rat × Rat) (k : Nat) : ∀ x ∈ elS k p, x.St := st_cons (clQ_st _ _) (st_cons (clQ_st _ _) st_nil)
section
variable {v1 z5 z6 z10 z11 : Value} {M i : Nat} {rs : List Rat} {ps : List (Rat × Rat)} {la lb : List UInt8} {p : Rat × Rat} {w : World}
def G4 (rs : List Rat) (ps : List (Rat × Rat)) (e10 e11 : World → List Value → Prop) (g : Gw) : Prop := (g.t = sT ∧ g.m = (ps.map (elS 4)).length * 8 ∧ g.n = 8 ∧ g.e = e10) ∨ (g.t = tT ∧ g.m = (ps.map (elT 4)).length * 6 ∧ g.n = 6 ∧ g.e = e11) ∨ (g.t = qT ∧ g.m = (rs.map (elQ 4)).length * 4) ∨ (g.t = rT ∧ g.m = (rs.map (elR 4)).length * 3)
theorem G4.s {e10 e11 : World → List Value → Prop} {g : Gw} (h : G4 rs ps e10 e11 g) : g.t ≠ sT ∨ g.m = (ps.map (elS 4)).length * 8 ∧ g.n = 8 ∧ g.e = e10 := by
 rcases h with h | h | h | h
 · exact .inr h.2
 all_goals exact .inl (by rw [h.1]; decide)
theorem G4.r {e10 e11 : World → List Value → Prop} {g : Gw} (h : G4 rs ps e10 e11 g) : g.t ≠ rT ∨ g.m = (rs.map (elR 4)).length * 3 := by
 rcases h with h | h | h | h
 · exact .inl (by rw [h.1]; decide)
 · exact .inl (by rw [h.1]; decide)
 · exact .inl (by rw [h.1]; decide)
 · exact .inr h.2
end
structure S2 (w0 : World) (v1 : Value) (rs : List Rat) (ps : List (Rat × Rat)) (i : Nat) (z5 z6 z10 z11 : Value) (a : Act) (w : World) : Prop where
 below : Below w0.heap.size w0 w
 defers : a.defers = []
 size : a.tmps.size = 211
 t1 : a.tmps[1]? = some v1
 t5 : a.tmps[5]? = some z5
 t6 : a.tmps[6]? = some z6
 t10 : a.tmps[10]? = some z10
 t11 : a.tmps[11]? = some z11
 t12 : a.tmps[12]? = some (ii (i : Int))
 o5 : jr w0.heap.size qT 4 w z5 (rs.map (elQ 4))
 o6 : jr w0.heap.size rT 3 w z6 (rs.map (elR 4))
 o10 : jr w0.heap.size sT 8 w z10 (ps.map (elS 4))
 o11 : jr w0.heap.size tT 6 w z11 (ps.map (elT 4))
section
variable {w : World} {v1 : Value} {rs : List Rat} {bx : List (List UInt8 × List UInt8)}
end
end Sym
open Go Go.RowKit Go.Proofs Lim
namespace Sym
def sumTo (f : Nat → Rat) : Nat → Rat
 | 0 => 0
 | i + 1 => sumTo f i + f i
theorem sum_le {f g : Nat → Rat} {n : Nat} (h : ∀ i, i < n → f i ≤ g i) : ∀ i, i ≤ n → sumTo f i ≤ sumTo g i
 | 0, _ => by show (0 : Rat) ≤ 0; grind
 | i + 1, hi => by
  have h1 := sum_le h i (by omega)
  have h2 := h i (by omega)
  show sumTo f i + f i ≤ sumTo g i + g i
  grind
def rI (ls : List (List UInt8)) (i : Nat) : Rat := nOf (ls.getD i [])
def aI (bx : List (List UInt8 × List UInt8)) (i : Nat) : Rat := nOf (bx.getD i ([], [])).1
def bI (bx : List (List UInt8 × List UInt8)) (i : Nat) : Rat := nOf (bx.getD i ([], [])).2
def lI (bx : List (List UInt8 × List UInt8)) (i : Nat) : Rat := cJ (aI bx i) [bI bx i]
def hI (bx : List (List UInt8 × List UInt8)) (i : Nat) : Rat := cC (aI bx i) [bI bx i]
def mI (pl : List UInt8) (i : Nat) : Nat := (pl.getD i 0).toNat
def tI (bx : List (List UInt8 × List UInt8)) (pl : List UInt8) (i : Nat) : Rat := lI bx i + (hI bx i - lI bx i) * partOf (mI pl i)
def vaI (ls : List (List UInt8)) (bx : List (List UInt8 × List UInt8)) (pl : List UInt8) : Nat → Rat := sumTo (fun i => rI ls i * tI bx pl i)
def loI (ls : List (List UInt8)) (bx : List (List UInt8 × List UInt8)) : Nat → Rat := sumTo (fun i => if 0 ≤ rI ls i then rI ls i * lI bx i else rI ls i * hI bx i)
def hiI (ls : List (List UInt8)) (bx : List (List UInt8 × List UInt8)) : Nat → Rat := sumTo (fun i => if 0 ≤ rI ls i then rI ls i * hI bx i else rI ls i * lI bx i)
abbrev sOf (p : List UInt8 × List UInt8) : Rat × Rat := (cJ (nOf p.1) [nOf p.2], cC (nOf p.1) [nOf p.2])
theorem mI_le (pl : List UInt8) (i : Nat) : mI pl i ≤ 255 := by
 have := (pl.getD i 0).toNat_lt
 unfold mI; omega
theorem lI_le (bx : List (List UInt8 × List UInt8)) (i : Nat) : lI bx i ≤ hI bx i := low_le_high _ _
theorem tI_in (bx : List (List UInt8 × List UInt8)) (pl : List UInt8) (i : Nat) : lI bx i ≤ tI bx pl i ∧ tI bx pl i ≤ hI bx i := by
 obtain ⟨h0, h1⟩ := partOf_range (mI_le pl i)
 have h2 := lI_le bx i
 unfold tI
 generalize partOf (mI pl i) = p at *
 generalize lI bx i = l at *
 generalize hI bx i = h at *
 have h3 := Rat.mul_nonneg (a := h - l) (b := p) (by grind) h0
 have h4 := Rat.mul_nonneg (a := h - l) (b := 1 - p) (by grind) (by grind)
 constructor <;> grind
theorem mul_le_l {c x y : Rat} (hc : 0 ≤ c) (h : x ≤ y) : c * x ≤ c * y := by
 have := Rat.mul_nonneg (a := c) (b := y - x) hc (by grind)
 grind
theorem mul_le_r {c x y : Rat} (hc : ¬ 0 ≤ c) (h : x ≤ y) : c * y ≤ c * x := by
 have := Rat.mul_nonneg (a := -c) (b := y - x) (by grind) (by grind)
 grind
theorem low_mul {c x y : Rat} (h : x ≤ y) : cJ (c * x) [c * y] = if 0 ≤ c then c * x else c * y := by
 show (if c * y < c * x then c * y else c * x) = _
 split <;> split
 · have := mul_le_l (c := c) (by assumption) h; grind
 · rfl
 · rfl
 · have := mul_le_r (c := c) (by assumption) h; grind
theorem high_mul {c x y : Rat} (h : x ≤ y) : cC (c * x) [c * y] = if 0 ≤ c then c * y else c * x := by
 show (if c * x < c * y then c * y else c * x) = _
 split <;> split
 · rfl
 · have := mul_le_r (c := c) (by assumption) h; grind
 · have := mul_le_l (c := c) (by assumption) h; grind
 · rfl
theorem form_lo {ls : List (List UInt8)} {bx : List (List UInt8 × List UInt8)} : ∀ i, i ≤ ls.length → i ≤ bx.length → fLow (ls.map nOf) (bx.map sOf) i = loI ls bx i ∧ fHigh (ls.map nOf) (bx.map sOf) i = hiI ls bx i
 | 0, _, _ => ⟨rfl, rfl⟩
 | i + 1, h1, h2 => by
  obtain ⟨e1, e2⟩ := form_lo (ls := ls) (bx := bx) i (by omega) (by omega)
  have c1 : (ls.map nOf).getD i 0 = rI ls i := by unfold rI; simp [List.getD_eq_getElem?_getD, List.getElem?_eq_getElem (show i < ls.length by omega)]
  have c2 : (bx.map sOf).getD i (0, 0) = (lI bx i, hI bx i) := by unfold lI hI aI bI; simp [List.getD_eq_getElem?_getD, List.getElem?_eq_getElem (show i < bx.length by omega)]
  constructor
  · show fLow _ _ i + cJ _ [_] = loI ls bx i + _
    rw [e1, c1, c2, low_mul (lI_le bx i)]
  · show fHigh _ _ i + cC _ [_] = hiI ls bx i + _
    rw [e2, c1, c2, high_mul (lI_le bx i)]
theorem value_in (ls : List (List UInt8)) (bx : List (List UInt8 × List UInt8)) (pl : List UInt8) (n : Nat) : loI ls bx n ≤ vaI ls bx pl n ∧ vaI ls bx pl n ≤ hiI ls bx n := by
 constructor
 · refine sum_le (n := n) (fun i _ => ?_) n (Nat.le_refl _)
   obtain ⟨h1, h2⟩ := tI_in bx pl i
   show (if 0 ≤ rI ls i then rI ls i * lI bx i else rI ls i * hI bx i) ≤ rI ls i * tI bx pl i
   split
   · exact mul_le_l (by assumption) h1
   · exact mul_le_r (by assumption) h2
 · refine sum_le (n := n) (fun i _ => ?_) n (Nat.le_refl _)
   obtain ⟨h1, h2⟩ := tI_in bx pl i
   show rI ls i * tI bx pl i ≤ (if 0 ≤ rI ls i then rI ls i * hI bx i else rI ls i * lI bx i)
   split
   · exact mul_le_l (by assumption) h2
   · exact mul_le_r (by assumption) h1
theorem sign_ge (r : Rat) : decide (sign r ≥ 0) = decide (0 ≤ r) := by
 rw [sign_eq]
 by_cases h : 0 ≤ r
 · have : ¬ r < 0 := by grind
   rw [if_neg this]
   split <;> simp [h]
 · have : r < 0 := by grind
   simp [this, h]
theorem siz_nOf {l : List UInt8} (h : l.length ≤ 60) : cF (nOf l) 4 := cF.read l (L := 60) h (by decide) (by decide)
section
variable {csz : List Nat} {numc : List Bool} {okT : List Nat} {nt : Nat} {cl : List Cl} {w0 : World} {w : World} {c1 c2 c5 c6 k1 k2 k5 k6 : Nat} {p1 p2 : jw} {r s : Rat}
theorem e_numberZ (hG : Gr w0) {l : List UInt8} (h1 : cl[c1]? = some (clV (str l))) (h2 : cl[c2]? = some (cQ r k2)) (hr : nOf l = r) (hl : l.length ≤ 100000) (z : cF r k2) : V csz numc okT nt cl w0 (.call 72) [op c1] (.val (qp c2)) := by
 subst hr
 refine ⟨enters_of Tryz.func72 (by kernel_rfl) rfl, fun w vs hb hvs => ?_⟩
 obtain ⟨v1, _, rfl, h4, rfl⟩ := hvs
 have h4 := (op_is h1).1 h4
 subst h4
 refine (number_any l w (by omega) (hG.below hb hG.size)).mono ?_
 rintro e w' ⟨v, rfl, hv, hb'⟩
 exact ⟨v, rfl, (qp_is h2).2 ⟨hv, z⟩, hb'⟩
theorem e_betweenZ (h1 : PQ csz numc okT nt cl w0 p1 r k1) (h2 : PQ csz numc okT nt cl w0 p2 s k2) (h5 : cl[c5]? = some (cQ (cJ r [s]) k5)) (h6 : cl[c6]? = some (cQ (cC r [s]) k6)) (hk : k1 + k2 ≤ 1000000) (z1 : cF (cJ r [s]) k5) (z2 : cF (cC r [s]) k6) :
 V csz numc okT nt cl w0 (.call 55) [p1, p2] (.val (sp c5 c6)) := by
 refine ⟨enters_of Tryz.func55 (by kernel_rfl) rfl, fun w vs hb hvs => ?_⟩
 obtain ⟨v1, _, rfl, h7, v2, _, rfl, h8, rfl⟩ := hvs
 have h7 := h1 _ _ h7
 have h8 := h2 _ _ h8
 refine (between_any v1 v2 r s (k1 + k2) w h7.1 h8.1 (h7.2.le (by omega)) (h8.2.le (by omega)) (by omega)).mono ?_
 rintro e w' ⟨v, rfl, hv, hb'⟩
 exact ⟨v, rfl, (sp_is h5 h6).2 ⟨hv, z1, z2⟩, hb'⟩
end
abbrev elB (m : UInt8) : List Cl := [clV (.int .u8 (m.toNat : Int))]
abbrev bsT : Nat := 100
theorem und_bs : Tryz.prog.underlying bsT = some (.slice (Tryz.prog.elem bsT)) := by kernel_rfl
theorem siz_bs : (Tryz.prog.info? (Tryz.prog.elem bsT)).map (·.size) = some 1 := by kernel_rfl
theorem agg_u8 : (Tryz.prog.underlying 5).map isAggD = some false := by kernel_rfl
end Sym
open Go Go.RowKit Go.Proofs Lim
open Go.ChangeShapes Go.WideShapes Go.ChangeAt Go.ChangeMaps
namespace Sym
theorem byte_of {n : Int} (h : (Lit.int .u8 n).wf = true) : ((UInt8.ofNat n.toNat).toNat : Int) = n := by
 have h : (decide ((0 : Int) ≤ n) && decide (n ≤ 255)) = true := h
 simp only [Bool.and_eq_true, decide_eq_true_eq] at h
 rw [UInt8.toNat_ofNat_of_lt' (by have : UInt8.size = 256 := rfl; omega)]
 omega
section
variable {H : Type} {enc : TypeId × Value → H} {W : World} {base : Nat}
set_option maxRecDepth 100000 in
theorem open_places {v : Value} {d : DataW H} {p : List MemPlace} (hv : Value.okWide Tryz.prog W .any base bsT v) (hT : DataW.Trod enc Tryz.prog W 0 (fun _ => true) true bsT v d p) : ∃ pl : List UInt8, Ls 1 W v (pl.map elB) := by
 obtain ⟨a0, len, cap, rfl⟩ := okWide_slice Tryz.underlying100 hv
 obtain ⟨fuel, hf⟩ := hT
 have hst : ∀ x : UInt8, ∀ y ∈ elB x, y.St := fun l => st_cons (clV_st rfl rfl) st_nil
 rcases Deep.open_slice1 Tryz.underlying100 (by kernel_rfl) hf with ⟨h, _⟩ | ⟨a, len', cap', m, n, V, D, Pl, h, _, hl, hm, hmm, _, hc⟩
 · have h : [Value.slice a0 len cap] = [.slice none 0 0] := h
   injection h with h
   injection h with e1 e2 e3
   subst e1 e2 e3
   obtain ⟨xs, _, hx⟩ := lst_of (w := W) (0 : UInt8) 1 (a := none) (len := 0) (cap := 0) elB hst (Nat.le_refl _) (by decide) (fun i hi => by omega)
   exact ⟨xs, hx⟩
 · have h : [Value.slice a0 len cap] = [.slice (some a) len' cap'] := h
   injection h with h
   injection h with e1 e2 e3
   subst e1 e2 e3
   have hsl : len ≤ m := by rw [hmm]; simp; exact hl
   have hsp : 0 < len → ∃ b o, a = ⟨b, o, none⟩ := fun h => add_zero_spot (hc 0 (by omega)).1
   obtain ⟨xs, _, hx⟩ := lst_of (w := W) (0 : UInt8) 1 (a := some a) (len := len) (cap := cap) elB hst hl hm (fun i hi => by
    obtain ⟨hci, htr⟩ := hc i (by omega)
    obtain ⟨b, o, rfl⟩ := hsp (by omega)
    rw [jh] at hci
    obtain ⟨q, e, _, hwf⟩ := DataW.trod_int Tryz.underlying5 htr
    have e : [V i] = [Value.int .u8 q] := e
    injection e with e
    rw [e] at hci
    refine ⟨UInt8.ofNat q.toNat, b, o, [.int .u8 q], rfl, rfl, fun j u hj => ?_, ⟨[.int .u8 q], [], rfl, ⟨fun _ => .int .u8 q, ?_, rfl⟩, rfl⟩⟩
    · cases j with
      | zero =>
       have : u = .int .u8 q := by simpa using hj.symm
       subst this
       rw [Nat.mul_one, Nat.add_zero]
       exact hci
      | succ j => simp at hj
    · show Value.int .u8 q = .int .u8 ((UInt8.ofNat q.toNat).toNat : Int)
      rw [byte_of hwf])
   exact ⟨xs, hx⟩
end
end Sym
open Go Go.RowKit Go.Proofs Lim
namespace Sym
abbrev T8 : Type := List (List UInt8)
abbrev TB : Type := List (List UInt8 × List UInt8)
abbrev qLs (ls : T8) (j : Nat) : List (List Cl) := ((ls.take j).map nOf).map (elQ 4)
abbrev sLs (bx : TB) (j : Nat) : List (List Cl) := ((bx.take j).map sOf).map (elS 4)
abbrev clv (B : Nat) (v0 v1 v2 z7 z8 : Value) (ls : T8) (bx : TB) (pl : List UInt8) (j i : Nat) : List Cl := [clO B qT 4 z7 (qLs ls j) dead, clO B sT 8 z8 (sLs bx j) dead, clW v0, clW v1, clW v2, clV (ii (i : Int)), clV (ii (bx.length : Int)), clW (cT v0 (i * 1)), clW (cT v1 (i * 2)), clW (cT v1 (i * 2 + 1)), clW (cT v2 (i * 1)),
 clV (str (ls.getD i [])), clV (str (bx.getD i ([], [])).1), clV (str (bx.getD i ([], [])).2), clV (ii ((ls.getD i []).length : Int)), clV (ii ((bx.getD i ([], [])).1.length : Int)), clV (ii ((bx.getD i ([], [])).2.length : Int)), clV (.int .u8 (mI pl i : Int)),
 cQ (rI ls i) 4, cQ (aI bx i) 4, cQ (bI bx i) 4, cQ (lI bx i) 4, cQ (hI bx i) 4, cQ (tI bx pl i) 70, cQ (rI ls i * tI bx pl i) 74, cQ (rI ls i * lI bx i) 8, cQ (rI ls i * hI bx i) 8,
 cQ (vaI ls bx pl i) (i * 75 + 1), cQ (loI ls bx i) (i * 75 + 1), cQ (hiI ls bx i) (i * 75 + 1), cQ (vaI ls bx pl (i + 1)) ((i + 1) * 75 + 1), cQ (loI ls bx (i + 1)) ((i + 1) * 75 + 1), cQ (hiI ls bx (i + 1)) ((i + 1) * 75 + 1), clV (ii ((i + 1 : Nat) : Int)), clV (ii (sign (rI ls i)))]
abbrev cszv : List Nat := [1, 1, 1, 1, 1, 1, 1, 1, 1, 1, 1, 1, 1, 1, 1, 1, 1, 1, 4, 4, 4, 4, 4, 4, 4, 4, 4, 4, 4, 4, 4, 4, 4, 1, 1]
abbrev numv : List Bool := [false, false, false, false, false, true, true, false, false, false, false, true, true, true, true, true, true, true, true, true, true, true, true, true, true, true, true, true, true, true, true, true, true, true, true]
noncomputable abbrev Cva (v0 v1 v2 z7 z8 : Value) (ls : T8) (bx : TB) (pl : List UInt8) (j i : Nat) (w : World) : Ctx := mkC cszv numv okS 299 (clv w.heap.size v0 v1 v2 z7 z8 ls bx pl j i) w
section
variable {v0 v1 v2 z7 z8 : Value} {ls : T8} {bx : TB} {pl : List UInt8} {j i : Nat} {w : World}
theorem cv_mem {P : Gw → Prop} {B : Nat} {c7 c8 : Cl} {l : List Cl} (h7 : ∀ g ∈ c7.L, P g) (h8 : ∀ g ∈ c8.L, P g) (hl : l.flatMap (·.L) = []) : ∀ g ∈ (c7 :: c8 :: l).flatMap (·.L), P g := mem_O h7 (mem_O h8 (mem_R hl))
theorem cv_ok (h0 : v0.oneCell' = true) (h1 : v1.oneCell' = true) (h2 : v2.oneCell' = true) (h7 : z7.oneCell' = true) (h8 : z8.oneCell' = true) : (Cva v0 v1 v2 z7 z8 ls bx pl j i w).Ok := by
 have hL : ∀ g ∈ (clv w.heap.size v0 v1 v2 z7 z8 ls bx pl j i).flatMap (·.L), (g.t = qT ∧ g.m = (qLs ls j).length * 4) ∨ (g.t = sT ∧ g.m = (sLs bx j).length * 8) :=
  cv_mem (B := 0) (fun g hg => .inl ⟨(clO_L hg).1, (clO_L hg).2.1⟩) (fun g hg => .inr ⟨(clO_L hg).1, (clO_L hg).2.1⟩) rfl
 have q := fun r k => clQ_ok (okT := okS) (B := w.heap.size) qrsT.1 r k
 have p := fun v n => cZ (okT := okS) (B := w.heap.size) (ptrAt_one v n)
 refine mkC_ok (ci (clO_ok sepS h7) <| ci (clO_ok sepS h8) <| ci (cZ h0) <| ci (cZ h1) <| ci (cZ h2) <| ci (ju _) <| ci (ju _) <| ci (p _ _) <| ci (p _ _) <| ci (p _ _) <| ci (p _ _) <|
  ci (clVs_ok _) <| ci (clVs_ok _) <| ci (clVs_ok _) <| ci (ju _) <| ci (ju _) <| ci (ju _) <| ci (clV_ok rfl) <| ci (q _ _) <| ci (q _ _) <| ci (q _ _) <| ci (q _ _) <| ci (q _ _) <| ci (q _ _) <| ci (q _ _) <| ci (q _ _) <| ci (q _ _) <|
  ci (q _ _) <| ci (q _ _) <| ci (q _ _) <| ci (q _ _) <| ci (q _ _) <| ci (q _ _) <| ci (ju _) <| ci (ju _) oks_nil) rfl rfl (.inr ?_)
 exact cn (gr_O (fun g hg => (hL g hg).elim (fun h => .inr h.2) (fun h => .inl (by rw [h.1]; decide)))) <| cn (gr_O (fun g hg => (hL g hg).elim (fun h => .inl (by rw [h.1]; decide)) (fun h => .inr h.2))) <| cn gr_W <| cn gr_W <| cn gr_W <| cn gr_V <| cn gr_V <| cn gr_W <| cn gr_W <| cn gr_W <| cn gr_W <|
  cn gr_V <| cn gr_V <| cn gr_V <| cn gr_V <| cn gr_V <| cn gr_V <| cn gr_V <| cn (gr_Q _ _) <| cn (gr_Q _ _) <| cn (gr_Q _ _) <| cn (gr_Q _ _) <| cn (gr_Q _ _) <| cn (gr_Q _ _) <| cn (gr_Q _ _) <| cn (gr_Q _ _) <| cn (gr_Q _ _) <|
  cn (gr_Q _ _) <| cn (gr_Q _ _) <| cn (gr_Q _ _) <| cn (gr_Q _ _) <| cn (gr_Q _ _) <| cn (gr_Q _ _) <| cn gr_V <| cn gr_V grs_nil
end
abbrev clg (B : Nat) (v0 v1 v2 z7 z8 : Value) (ls : T8) (bx : TB) (pl : List UInt8) (i : Nat) (X : List Nat) (a b c d e : Nat) : List Cl := [clX B qT 4 X z7 (qLs ls i) (nxt (elQ 4 (rI ls i))), clX B sT 8 X z8 (sLs bx i) (nxt (elS 4 (lI bx i, hI bx i))), clW v0, clW v1, clW v2, clV (ii (i : Int)),
 clBk a qT (elQ (i * 75 + 1) (vaI ls bx pl i)), clBk b qT (elQ (i * 75 + 1) (loI ls bx i)), clBk c qT (elQ (i * 75 + 1) (hiI ls bx i)), clBk d qT (elQ 4 (rI ls i)), clBk e sT (elS 4 (lI bx i, hI bx i)), cQ (rI ls i) 4, cQ (lI bx i) 4, cQ (hI bx i) 4, clY B qT 4 X (qLs ls i ++ [elQ 4 (rI ls i)]), clY B sT 8 X (sLs bx i ++ [elS 4 (lI bx i, hI bx i)])]
noncomputable abbrev Cgr (v0 v1 v2 z7 z8 : Value) (ls : T8) (bx : TB) (pl : List UInt8) (i : Nat) (X : List Nat) (a b c d e : Nat) (w : World) : Ctx := mkC [1, 1, 1, 1, 1, 1, 1, 1, 1, 1, 1, 4, 4, 4, 1, 1] [false, false, false, false, false, true, true, true, true, true, true, true, true, true, false, false] [] 299 (clg w.heap.size v0 v1 v2 z7 z8 ls bx pl i X a b c d e) w
section
variable {v0 v1 v2 z7 z8 : Value} {ls : T8} {bx : TB} {pl : List UInt8} {i a b c d e : Nat} {X : List Nat} {w : World}
theorem cg_ok (h0 : v0.oneCell' = true) (h1 : v1.oneCell' = true) (h2 : v2.oneCell' = true) (h7 : z7.oneCell' = true) (h8 : z8.oneCell' = true) (hX : ∀ k ∈ [a, b, c, d, e], z7.ownBlock ≠ some k ∧ z8.ownBlock ≠ some k) : (Cgr v0 v1 v2 z7 z8 ls bx pl i X a b c d e w).Ok := by
 have hL : ∀ g ∈ (clg w.heap.size v0 v1 v2 z7 z8 ls bx pl i X a b c d e).flatMap (·.L), (g.t = qT ∧ g.m = (qLs ls i).length * 4 ∧ g.n = 4 ∧ g.e = nxt (elQ 4 (rI ls i))) ∨ (g.t = sT ∧ g.m = (sLs bx i).length * 8 ∧ g.n = 8 ∧ g.e = nxt (elS 4 (lI bx i, hI bx i))) :=
  cv_mem (B := 0) (fun g hg => .inl (clX_L hg)) (fun g hg => .inr (clX_L hg)) rfl
 have hR : ∀ k ∈ [a, b, c, d, e], ∀ g ∈ (clg w.heap.size v0 v1 v2 z7 z8 ls bx pl i X a b c d e).flatMap (·.L), g.R ≠ k := fun k hk =>
  cv_mem (B := 0) (fun g hg e => (hX k hk).1 (by rw [← e]; exact clX_R hg)) (fun g hg e => (hX k hk).2 (by rw [← e]; exact clX_R hg)) rfl
 refine mkC_ok (ci (clX_ok h7) <| ci (clX_ok h8) <| ci (cZ h0) <| ci (cZ h1) <| ci (cZ h2) <| ci (ju _) <| ci clBk_ok <| ci clBk_ok <| ci clBk_ok <| ci clBk_ok <| ci clBk_ok <| ci (clQ_ok noT _ _) <| ci (clQ_ok noT _ _) <| ci (clQ_ok noT _ _) <| ci clY_ok <| ci clY_ok oks_nil) rfl rfl (.inr ?_)
 exact cn (gr_X (fun g hg => (hL g hg).elim (fun h => .inr h.2.1) (fun h => .inl (by rw [h.1]; decide)))) <| cn (gr_X (fun g hg => (hL g hg).elim (fun h => .inl (by rw [h.1]; decide)) (fun h => .inr h.2.1))) <| cn gr_W <| cn gr_W <| cn gr_W <| cn gr_V <|
  cn (gr_Bk (hR a (by simp))) <| cn (gr_Bk (hR b (by simp))) <| cn (gr_Bk (hR c (by simp))) <| cn (gr_Bk (hR d (by simp))) <| cn (gr_Bk (hR e (by simp))) <| cn (gr_Q _ _) <| cn (gr_Q _ _) <| cn (gr_Q _ _) <|
  cn (gr_Y (st_q _ 4) (fun g hg => (hL g hg).elim (fun h => .inr h.2) (fun h => .inl (by rw [h.1]; decide)))) <| cn (gr_Y (st_s (lI bx i, hI bx i) 4) (fun g hg => (hL g hg).elim (fun h => .inl (by rw [h.1]; decide)) (fun h => .inr h.2))) grs_nil
end
def tv1 (b : Bool) : List Ent := [⟨.blt .len [endsT] intT, [op 3], .val (op 6)⟩, ⟨.bin .lss intT, [op 5, op 6], .val (vp (.bool b))⟩]
def tv2 (b c d : Bool) : List Ent := [⟨.ix strsT, [op 2, op 5], .val (op 7)⟩, ⟨.ld 9, [op 7], .val (op 11)⟩, ⟨.blt .len [9] intT, [op 11], .val (op 14)⟩, ⟨.bin .gtr intT, [op 14, vp (ii 60)], .val (vp (.bool b))⟩, ⟨.ix endsT, [op 3, op 5], .val (op 8)⟩, ⟨.fa 64 0, [op 8], .val (op 8)⟩, ⟨.ld 9, [op 8], .val (op 12)⟩, ⟨.blt .len [9] intT, [op 12], .val (op 15)⟩, ⟨.bin .gtr intT, [op 15, vp (ii 60)], .val (vp (.bool c))⟩,
 ⟨.fa 64 1, [op 8], .val (op 9)⟩, ⟨.ld 9, [op 9], .val (op 13)⟩, ⟨.blt .len [9] intT, [op 13], .val (op 16)⟩, ⟨.bin .gtr intT, [op 16, vp (ii 60)], .val (vp (.bool d))⟩, ⟨.call 10, [], .val (vp (.bool true))⟩]
def tv3 : List Ent := [⟨.call 72, [op 11], .val (qp 18)⟩, ⟨.call 72, [op 12], .val (qp 19)⟩, ⟨.call 72, [op 13], .val (qp 20)⟩, ⟨.call 55, [qp 19, qp 20], .val (sp 21 22)⟩]
def tv4 : List Ent := [⟨.ld 26, [op 9], .val (qp 11)⟩, ⟨.ld 66, [op 10], .val (sp 12 13)⟩, ⟨.blt .append [91, 91] 91, [op 0, .slc qT 1 [.cls 11 4]], .val (op 14)⟩, ⟨.blt .append [93, 93] 93, [op 1, .slc sT 1 [.cls 12 4, .cls 13 4]], .val (op 15)⟩]
def tv5 (b : Bool) (x y : Nat) : List Ent := [⟨.ix bsT, [op 4, op 5], .val (op 10)⟩, ⟨.ld 5, [op 10], .val (op 17)⟩, ⟨.call 73, [sp 21 22, op 17], .val (qp 23)⟩, ⟨.call 29, [qp 18, qp 23], .val (qp 24)⟩, ⟨.call 25, [qp 27, qp 24], .val (qp 30)⟩, ⟨.call 19, [qp 18], .val (op 34)⟩, ⟨.bin .geq intT, [op 34, vp (ii 0)], .val (vp (.bool b))⟩,
 ⟨.call 29, [qp 18, qp 21], .val (qp 25)⟩, ⟨.call 29, [qp 18, qp 22], .val (qp 26)⟩, ⟨.call 25, [qp 28, qp x], .val (qp 31)⟩, ⟨.call 25, [qp 29, qp y], .val (qp 32)⟩, ⟨.bin .add intT, [op 5, vp (ii 1)], .val (op 33)⟩]
noncomputable def b_lv : Code := bodyOf Tryz.f9
noncomputable def x1_lv : Code := seqL (jc 4 b_lv)
noncomputable def l1_lv : Code := inner (inner (seqR x1_lv))
abbrev I1 : List Item := [.val 0 (op 2), .val 1 (op 3), .val 2 (op 4), .val 7 (op 0), .val 8 (op 1), .box 9 qT [.cls 27 4], .box 10 qT [.cls 28 4], .box 11 qT [.cls 29 4], .val 12 (op 5)]
abbrev I3 : List Item := [.val 0 (op 2), .val 1 (op 3), .val 2 (op 4), .val 7 (op 0), .val 8 (op 1), .box 9 qT [.cls 27 4], .box 10 qT [.cls 28 4], .box 11 qT [.cls 29 4], .val 12 (op 5), .box 13 qT [.cls 18 4], .box 14 sT [.cls 21 4, .cls 22 4]]
abbrev I4 : List Item := [.val 0 (op 2), .val 1 (op 3), .val 2 (op 4), .val 7 (op 0), .val 8 (op 1), .val 9 (op 6), .val 10 (op 7), .val 11 (op 8), .val 12 (op 5), .val 13 (op 9), .val 14 (op 10)]
abbrev I4' : List Item := [.val 0 (op 2), .val 1 (op 3), .val 2 (op 4), .val 7 (op 14), .val 8 (op 15), .val 9 (op 6), .val 10 (op 7), .val 11 (op 8), .val 12 (op 5), .val 13 (op 9), .val 14 (op 10)]
abbrev I5 : List Item := [.val 0 (op 2), .val 1 (op 3), .val 2 (op 4), .val 7 (op 0), .val 8 (op 1), .box 9 qT [.cls 30 4], .box 10 qT [.cls 31 4], .box 11 qT [.cls 32 4], .val 12 (op 5)]
abbrev I6 : List Item := [.val 0 (op 2), .val 1 (op 3), .val 2 (op 4), .val 7 (op 0), .val 8 (op 1), .box 9 qT [.cls 30 4], .box 10 qT [.cls 31 4], .box 11 qT [.cls 32 4], .val 12 (op 33)]
section
variable {v0 v1 v2 z7 z8 : Value} {ls : T8} {bx : TB} {pl : List UInt8} {j i : Nat} {w w1 : World} {a : Act}
theorem sz_lt {w : World} {R : Nat} {x : Obj} (h : w.heap[R]? = some x) : R < w.heap.size := by
 rcases Nat.lt_or_ge R w.heap.size with h' | h'
 · exact h'
 · rw [Array.getElem?_eq_none h'] at h; cases h
theorem map_grow {α β : Type} (f : α → β) (d : α) {l : List α} (h : i < l.length) : (l.take (i + 1)).map f = (l.take i).map f ++ [f (l.getD i d)] := by
 rw [List.take_add_one, List.getD_eq_getElem?_getD, List.getElem?_eq_getElem h, List.map_append]; rfl
theorem q_grow (h : i < ls.length) : qLs ls i ++ [elQ 4 (rI ls i)] = qLs ls (i + 1) := by
 unfold qLs
 rw [map_grow nOf [] h, List.map_append]; rfl
theorem s_grow (h : i < bx.length) : sLs bx i ++ [elS 4 (lI bx i, hI bx i)] = sLs bx (i + 1) := by
 unfold sLs
 rw [map_grow sOf ([], []) h, List.map_append]; rfl
theorem lim_X {w0 w : World} {t n : Nat} {X : List Nat} {z : Value} {es : List (List Cl)} {ne : World → List Value → Prop} {cl : List Cl} (h : jr w0.heap.size t n w z es) (k : LimOk w0 w cl) : LimOk w0 w (clX w0.heap.size t n X z es ne :: cl) := fun x hx g hg => by
 rcases List.mem_cons.1 hx with rfl | hx
 · exact h.lt _ (clX_R hg)
 · exact k x hx g hg
theorem cv_out {k : Nat} (h : k ∉ (Cva v0 v1 v2 z7 z8 ls bx pl j i w).L) : z7.ownBlock ≠ some k ∧ z8.ownBlock ≠ some k := by
 constructor
 · intro e
   refine h (List.mem_map.2 ⟨⟨k, (qLs ls j).length * 4, 4, qT, dead⟩, List.mem_flatMap.2 ⟨clO w.heap.size qT 4 z7 (qLs ls j) dead, List.mem_cons_self, ?_⟩, rfl⟩)
   exact List.mem_map.2 ⟨k, by simp [e], rfl⟩
 · intro e
   refine h (List.mem_map.2 ⟨⟨k, (sLs bx j).length * 8, 8, sT, dead⟩, List.mem_flatMap.2 ⟨clO w.heap.size sT 8 z8 (sLs bx j) dead, List.mem_cons_of_mem _ List.mem_cons_self, ?_⟩, rfl⟩)
   exact List.mem_map.2 ⟨k, by simp [e], rfl⟩
theorem cv_in {k : Nat} (h7 : z7.ownBlock ≠ some k) (h8 : z8.ownBlock ≠ some k) : k ∉ (Cva v0 v1 v2 z7 z8 ls bx pl j i w).L := by
 intro h
 obtain ⟨g, hg, rfl⟩ := List.mem_map.1 h
 have : ∀ g ∈ (clv w.heap.size v0 v1 v2 z7 z8 ls bx pl j i).flatMap (·.L), z7.ownBlock = some g.R ∨ z8.ownBlock = some g.R := cv_mem (B := 0)
  (fun g hg => by
   simp only [clO, List.mem_map, Option.mem_toList] at hg
   obtain ⟨k, hk, rfl⟩ := hg
   exact .inl hk)
  (fun g hg => by
   simp only [clO, List.mem_map, Option.mem_toList] at hg
   obtain ⟨k, hk, rfl⟩ := hg
   exact .inr hk) rfl
 exact (this g hg).elim h7 h8
set_option maxRecDepth 100000 in
set_option maxHeartbeats 1000000 in
theorem lists_grow (h0 : v0.oneCell' = true) (h1 : v1.oneCell' = true) (h2 : v2.oneCell' = true) (hi : i < ls.length) (hb : i < bx.length) (hn : ls.length ≤ 8) {c : Code} {Q : Exit → Act → World → Prop} (hA : At (Cva v0 v1 v2 z7 z8 ls bx pl i i w) I3 a w1)
 (hc : segB ⟨Tryz.prog, [1, 1, 1, 1, 1, 1, 1, 1, 1, 1, 1, 4, 4, 4, 1, 1], [false, false, false, false, false, true, true, true, true, true, true, true, true, true, false, false], [], 299⟩ tv4 30 c I4 .normal I4' = true)
 (hQ : ∀ z7 z8 a w1, At (Cva v0 v1 v2 z7 z8 ls bx pl (i + 1) i w) I3 a w1 → Q .normal a w1) : c.wp Tryz.prog Q a w1 := by
 obtain ⟨⟨u0, g0, e0⟩, ⟨u1, g1, e1⟩, ⟨u2, g2, e2⟩, ⟨u7, g7, e7⟩, ⟨u8, g8, e8⟩, Ra, va, ga, ⟨ba, la⟩, da, ha, ca, Rb, vb, gb, ⟨bb, lb⟩, db, hb', cb, Rc, vc, gc, ⟨bc, lc⟩, dc, hc', cc, ⟨u12, g12, e12⟩, Rd, vd, gd, ⟨bd, ld⟩, dd, hd, cd, Re, ve, ge, ⟨be, le⟩, de, he, ce, _⟩ := hA.items
 rw [(cE rfl).1 e0] at g0
 rw [(cE rfl).1 e1] at g1
 rw [(cE rfl).1 e2] at g2
 obtain ⟨rfl, o7⟩ := (op_isO rfl).1 e7
 obtain ⟨rfl, o8⟩ := (op_isO rfl).1 e8
 rw [(op_is rfl).1 e12] at g12
 have hX : ∀ k ∈ [Ra, Rb, Rc, Rd, Re], u7.ownBlock ≠ some k ∧ u8.ownBlock ≠ some k := by
  intro k hk
  simp only [List.mem_cons, List.not_mem_nil, or_false] at hk
  rcases hk with rfl | rfl | rfl | rfl | rfl
  · exact cv_out la
  · exact cv_out lb
  · exact cv_out lc
  · exact cv_out ld
  · exact cv_out le
 have hS : ∀ k ∈ [Ra, Rb, Rc, Rd, Re], k < w1.heap.size := by
  intro k hk
  simp only [List.mem_cons, List.not_mem_nil, or_false] at hk
  rcases hk with rfl | rfl | rfl | rfl | rfl
  · exact sz_lt ha
  · exact sz_lt hb'
  · exact sz_lt hc'
  · exact sz_lt hd
  · exact sz_lt he
 have hC := cg_ok (ls := ls) (bx := bx) (pl := pl) (i := i) (X := [Ra, Rb, Rc, Rd, Re]) (w := w) h0 h1 h2 o7.one o8.one hX
 have r1 : ∀ {cl : List Cl} {c k : Nat} {r : Rat}, cl[c]? = some (cQ r k) → Res cl [.cls c 4] (elQ k r) := fun h => ⟨_, _, rfl, h, rfl, rfl⟩
 have r2 : ∀ {cl : List Cl} {c d : Nat} {p : Rat × Rat}, cl[c]? = some (cQ p.1 4) → cl[d]? = some (cQ p.2 4) → Res cl [.cls c 4, .cls d 4] (elS 4 p) := fun h h' => ⟨_, _, rfl, h, rfl, _, _, rfl, h', rfl, rfl⟩
 have hB : At (Cgr v0 v1 v2 u7 u8 ls bx pl i [Ra, Rb, Rc, Rd, Re] Ra Rb Rc Rd Re w) I4 a w1 := ⟨hA.below, hA.defers, hA.size, ⟨⟨_, g0, (cE rfl).2 rfl⟩, ⟨_, g1, (cE rfl).2 rfl⟩, ⟨_, g2, (cE rfl).2 rfl⟩,
  ⟨_, g7, (op_isX rfl).2 ⟨rfl, o7, fun k hk => ⟨(hX k hk).1, hS k hk⟩⟩⟩, ⟨_, g8, (op_isX rfl).2 ⟨rfl, o8, fun k hk => ⟨(hX k hk).2, hS k hk⟩⟩⟩,
  ⟨_, ga, (op_isBk rfl).2 ⟨rfl, st_q _ _, va, ha, are_res (r1 rfl) ca⟩⟩, ⟨_, gb, (op_isBk rfl).2 ⟨rfl, st_q _ _, vb, hb', are_res (r1 rfl) cb⟩⟩, ⟨_, gc, (op_isBk rfl).2 ⟨rfl, st_q _ _, vc, hc', are_res (r1 rfl) cc⟩⟩, ⟨_, g12, (op_is rfl).2 rfl⟩,
  ⟨_, gd, (op_isBk rfl).2 ⟨rfl, st_q _ _, vd, hd, are_res (r1 rfl) cd⟩⟩, ⟨_, ge, (op_isBk rfl).2 ⟨rfl, st_s _ _, ve, he, are_res (r2 (p := (lI bx i, hI bx i)) rfl rfl) ce⟩⟩, trivial⟩, lim_at (lim_X o7 (lim_X o8 (lim_rest rfl)))⟩
 have hT : ∀ t ∈ tv4, t.Valid (Cgr v0 v1 v2 u7 u8 ls bx pl i [Ra, Rb, Rc, Rd, Re] Ra Rb Rc Rd Re w) :=
  cg (e_ldBk agg_q siz_q rfl (r1 rfl) rfl) <| cg (e_ldBk agg_sp siz_sp rfl (r2 (p := (lI bx i, hI bx i)) rfl rfl) rfl) <|
  cg (e_pushX und_q' inf_q rfl (by decide) (by decide) sep_q (by simp; omega) (st_q _ _) rfl rfl (r1 rfl) rfl) <| cg (e_pushX und_s' inf_s rfl (by decide) (by decide) sep_s (by simp; omega) (st_s _ _) rfl rfl (r2 (p := (lI bx i, hI bx i)) rfl rfl) rfl) cA
 refine jf hC hT (x := .normal) (n := 30) (post := I4') hc hB (fun a w1 hA => ?_)
 clear hB g0 g1 g2 g7 g8 g12 e0 e1 e2 e7 e8 e12 ga gb gc gd ge ha hb' hc' hd he ca cb cc cd ce
 obtain ⟨⟨u0, g0, e0⟩, ⟨u1, g1, e1⟩, ⟨u2, g2, e2⟩, ⟨u7, g7, e7⟩, ⟨u8, g8, e8⟩, ⟨xa, ga, ea⟩, ⟨xb, gb, eb⟩, ⟨xc, gc, ec⟩, ⟨u12, g12, e12⟩, ⟨xd, gd, ed⟩, ⟨xe, ge, ee⟩, _⟩ := hA.items
 rw [(cE rfl).1 e0] at g0
 rw [(cE rfl).1 e1] at g1
 rw [(cE rfl).1 e2] at g2
 rw [(op_is rfl).1 e12] at g12
 obtain ⟨o7, x7⟩ := (op_isY rfl).1 e7
 obtain ⟨o8, x8⟩ := (op_isY rfl).1 e8
 obtain ⟨rfl, _, va, ha, ca⟩ := (op_isBk rfl).1 ea
 obtain ⟨rfl, _, vb, hb', cb⟩ := (op_isBk rfl).1 eb
 obtain ⟨rfl, _, vc, hc', cc⟩ := (op_isBk rfl).1 ec
 obtain ⟨rfl, _, vd, hd, cd⟩ := (op_isBk rfl).1 ed
 obtain ⟨rfl, _, ve, he, ce⟩ := (op_isBk rfl).1 ee
 rw [q_grow hi] at o7
 rw [s_grow hb] at o8
 refine hQ u7 u8 a w1 ⟨hA.below, hA.defers, hA.size, ⟨⟨_, g0, (cE rfl).2 rfl⟩, ⟨_, g1, (cE rfl).2 rfl⟩, ⟨_, g2, (cE rfl).2 rfl⟩, ⟨_, g7, (op_isO rfl).2 ⟨rfl, o7⟩⟩, ⟨_, g8, (op_isO rfl).2 ⟨rfl, o8⟩⟩,
  Ra, va, ga, ⟨ba, cv_in (x7 _ (by simp)) (x8 _ (by simp))⟩, da, ha, res_are (r1 rfl) ca, Rb, vb, gb, ⟨bb, cv_in (x7 _ (by simp)) (x8 _ (by simp))⟩, db, hb', res_are (r1 rfl) cb, Rc, vc, gc, ⟨bc, cv_in (x7 _ (by simp)) (x8 _ (by simp))⟩, dc, hc', res_are (r1 rfl) cc, ⟨_, g12, (op_is rfl).2 rfl⟩,
  Rd, vd, gd, ⟨bd, cv_in (x7 _ (by simp)) (x8 _ (by simp))⟩, dd, hd, res_are (r1 rfl) cd, Re, ve, ge, ⟨be, cv_in (x7 _ (by simp)) (x8 _ (by simp))⟩, de, he, res_are (r2 (p := (lI bx i, hI bx i)) rfl rfl) ce, trivial⟩, lim_at (lim_O o7 (lim_O o8 (lim_rest rfl)))⟩
end
end Sym
open Go Go.RowKit Go.Proofs Lim
namespace Sym
section
variable {v0 v1 v2 z7 z8 : Value} {ls : T8} {bx : TB} {pl : List UInt8} {j i : Nat} {w w1 : World} {a : Act}
theorem tv1_ok {b : Bool} (L1 : Ls 2 w v1 (bx.map elE)) (hb : decide ((i : Int) < (bx.length : Int)) = b) : ∀ t ∈ tv1 b, t.Valid (Cva v0 v1 v2 z7 z8 ls bx pl j i w) :=
 cg (e_lenZ und_ends (pzW rfl L1) (by rw [List.length_map]; exact rv rfl)) (cg (e_lss (pv rfl) (pv rfl) hb) cA)
theorem tv2_ok {b c d : Bool} (hG : Gr w) (L0 : Ls 1 w v0 (ls.map elTx)) (L1 : Ls 2 w v1 (bx.map elE)) (h0 : i < ls.length) (h1 : i < bx.length) (hb : decide (((ls.getD i []).length : Int) > 60) = b) (hc : decide (((bx.getD i ([], [])).1.length : Int) > 60) = c) (hd : decide (((bx.getD i ([], [])).2.length : Int) > 60) = d) :
 ∀ t ∈ tv2 b c d, t.Valid (Cva v0 v1 v2 z7 z8 ls bx pl j i w) := by
 have e0 : (ls.map elTx)[i]? = some ([] ++ [clV (str (ls.getD i []))] ++ []) := jg elTx [] h0
 have e1 : (bx.map elE)[i]? = some ([] ++ [clV (str (bx.getD i ([], [])).1)] ++ [clV (str (bx.getD i ([], [])).2)]) := jg elE ([], []) h1
 have e2 : (bx.map elE)[i]? = some ([clV (str (bx.getD i ([], [])).1)] ++ [clV (str (bx.getD i ([], [])).2)] ++ []) := jg elE ([], []) h1
 have l0 : (ls.map elTx).length = ls.length := by simp
 have l1 : (bx.map elE).length = bx.length := by simp
 have hreal := L1.real (i := i) (by rw [l1]; exact h1)
 exact cg (e_ixZ (n := 1) und_strs siz_strs (pvW rfl) (pzW rfl L0) (pv rfl) (by rw [l0]; exact h0) (rvW rfl)) <| cg (e_ldZ1 (n := 1) (i := i) (y := clV (str (ls.getD i []))) agg_str [] [] (pvW rfl) (fun w hb => L0.below hb) e0 rfl rfl) <| cg (e_slen rfl (pv rfl) (rv rfl)) <| cg (e_gtr (pv rfl) pvl hb) <|
  cg (e_ixZ (n := 2) und_ends siz_ends (pvW rfl) (pzW rfl L1) (pv rfl) (by rw [l1]; exact h1) (rvW rfl)) <| cg (e_faZ (es := bx.map elE) (off := 0) (m := 0) (by kernel_rfl) (pvW rfl) hreal (rvW rfl)) <| cg (e_ldZ1 (n := 2) (i := i) (y := clV (str (bx.getD i ([], [])).1)) agg_str [] [clV (str (bx.getD i ([], [])).2)] (pvW rfl) (fun w hb => L1.below hb) e1 rfl rfl) <| cg (e_slen rfl (pv rfl) (rv rfl)) <| cg (e_gtr (pv rfl) pvl hc) <|
  cg (e_faZ (es := bx.map elE) (off := 1) (m := 0) (by kernel_rfl) (pvW rfl) hreal (rvW rfl)) <| cg (e_ldZ1 (n := 2) (i := i) (y := clV (str (bx.getD i ([], [])).2)) agg_str [clV (str (bx.getD i ([], [])).1)] [] (pvW rfl) (fun w hb => L1.below hb) e2 rfl rfl) <| cg (e_slen rfl (pv rfl) (rv rfl)) <| cg (e_gtr (pv rfl) pvl hd) <| cg (e_known hG) cA
abbrev Short (ls : T8) (bx : TB) (i : Nat) : Prop := (ls.getD i []).length ≤ 60 ∧ (bx.getD i ([], [])).1.length ≤ 60 ∧ (bx.getD i ([], [])).2.length ≤ 60
theorem tv3_ok (hG : Gr w) (hs : Short ls bx i) : ∀ t ∈ tv3, t.Valid (Cva v0 v1 v2 z7 z8 ls bx pl j i w) := by
 have za := siz_nOf hs.2.1
 have zb := siz_nOf hs.2.2
 exact cg (e_numberZ hG rfl rfl rfl (by omega) (siz_nOf hs.1)) <| cg (e_numberZ hG rfl rfl rfl (by omega) za) <| cg (e_numberZ hG rfl rfl rfl (by omega) zb) <| cg (e_betweenZ (pq rfl) (pq rfl) rfl rfl (by omega) (siz_l1 za zb) (siz_h1 za zb)) cA
theorem tv5_ok {b : Bool} {x y : Nat} (hG : Gr w) (L2 : Ls 1 w v2 (pl.map elB)) (hi : i < pl.length) (hi8 : i < 8) (hs : Short ls bx i) (hb : decide (0 ≤ rI ls i) = b) (hx : x = cond b 25 26) (hy : y = cond b 26 25) : ∀ t ∈ tv5 b x y, t.Valid (Cva v0 v1 v2 z7 z8 ls bx pl j i w) := by
 have za := siz_nOf hs.2.1
 have zb := siz_nOf hs.2.2
 have zl : cF (lI bx i) 4 := siz_l1 za zb
 have zh : cF (hI bx i) 4 := siz_h1 za zb
 have eb : (pl.map elB)[i]? = some ([] ++ [clV (.int .u8 (mI pl i : Int))] ++ []) := jg elB 0 hi
 have lb : (pl.map elB).length = pl.length := by simp
 have eN : (i + 1) * 75 = i * 75 + 75 := by omega
 refine cg (e_ixZ (n := 1) und_bs siz_bs (pvW rfl) (pzW rfl L2) (pv rfl) (by rw [lb]; exact hi) (rvW rfl)) <| cg (e_ldZ1 (n := 1) (i := i) (y := clV (.int .u8 (mI pl i : Int))) agg_u8 [] [] (pvW rfl) (fun w hb => L2.below hb) eb rfl rfl) <| cg (e_at hG (mI_le pl i) (ps rfl rfl) rfl rfl (zl.le (by decide)) (zh.le (by decide)) rfl) <|
  cg (e_times hG (pq rfl) (pq rfl) rfl rfl) <| cg (e_plus hG (pq rfl) (pq rfl) rfl (fits_mk (by omega) (by omega))) <| cg (e_signx (pq rfl) (rv rfl)) <| cg (e_geq (pv rfl) pvl ((sign_ge _).trans hb)) <| cg (e_times hG (pq rfl) (pq rfl) rfl rfl) <| cg (e_times hG (pq rfl) (pq rfl) rfl rfl) ?_
 cases b
 · have hn : ¬ 0 ≤ rI ls i := of_decide_eq_false hb
   have e1 : loI ls bx (i + 1) = loI ls bx i + rI ls i * hI bx i := by show loI ls bx i + (if _ then _ else _) = _; rw [if_neg hn]
   have e2 : hiI ls bx (i + 1) = hiI ls bx i + rI ls i * lI bx i := by show hiI ls bx i + (if _ then _ else _) = _; rw [if_neg hn]
   subst hx hy
   exact cg (e_plus hG (pq (c := 28) rfl) (pq (c := 26) rfl) (show _ = some (cQ _ ((i + 1) * 75 + 1)) from by rw [← e1]; rfl) (fits_mk (by omega) (by omega))) <| cg (e_plus hG (pq (c := 29) rfl) (pq (c := 25) rfl) (show _ = some (cQ _ ((i + 1) * 75 + 1)) from by rw [← e2]; rfl) (fits_mk (by omega) (by omega))) <| cg (e_add (by omega) (pv rfl) pvl (rv rfl) (by omega)) cA
 · have hn : 0 ≤ rI ls i := of_decide_eq_true hb
   have e1 : loI ls bx (i + 1) = loI ls bx i + rI ls i * lI bx i := by show loI ls bx i + (if _ then _ else _) = _; rw [if_pos hn]
   have e2 : hiI ls bx (i + 1) = hiI ls bx i + rI ls i * hI bx i := by show hiI ls bx i + (if _ then _ else _) = _; rw [if_pos hn]
   subst hx hy
   exact cg (e_plus hG (pq (c := 28) rfl) (pq (c := 25) rfl) (show _ = some (cQ _ ((i + 1) * 75 + 1)) from by rw [← e1]; rfl) (fits_mk (by omega) (by omega))) <| cg (e_plus hG (pq (c := 29) rfl) (pq (c := 26) rfl) (show _ = some (cQ _ ((i + 1) * 75 + 1)) from by rw [← e2]; rfl) (fits_mk (by omega) (by omega))) <| cg (e_add (by omega) (pv rfl) pvl (rv rfl) (by omega)) cA
theorem at_one {is : List Item} (hA : At (Cva v0 v1 v2 z7 z8 ls bx pl j i w) (.val 0 (op 2) :: .val 1 (op 3) :: .val 2 (op 4) :: .val 7 (op 0) :: .val 8 (op 1) :: is) a w1) : z7.oneCell' = true ∧ z8.oneCell' = true := by
 obtain ⟨_, _, _, ⟨_, _, e7⟩, ⟨_, _, e8⟩, _⟩ := hA.items
 exact ⟨((op_isO rfl).1 e7).2.one, ((op_isO rfl).1 e8).2.one⟩
set_option maxRecDepth 100000 in
set_option maxHeartbeats 1000000 in
theorem loopv (hG : Gr w) (L0 : Ls 1 w v0 (ls.map elTx)) (L1 : Ls 2 w v1 (bx.map elE)) (L2 : Ls 1 w v2 (pl.map elB)) (hn : ls.length ≤ 8) (hlen : bx.length = ls.length) (hp : bx.length ≤ pl.length) {R : Code} (hA : At (Cva v0 v1 v2 z7 z8 ls bx pl 0 0 w) I1 a w1)
 (hQ : ∀ z7 z8 a w1, (∀ k, k < bx.length → Short ls bx k) → At (Cva v0 v1 v2 z7 z8 ls bx pl bx.length bx.length w) I1 a w1 → R.wp Tryz.prog (bodyPost Tryz.prog Tryz.f9 (LF w)) a w1) :
 (Code.block 0 (.loop l1_lv)).wp Tryz.prog (Exit.then (fun a w1 => R.wp Tryz.prog (bodyPost Tryz.prog Tryz.f9 (LF w)) a w1) (bodyPost Tryz.prog Tryz.f9 (LF w))) a w1 := by
 refine while_is (Θ := Nat) (fun i a w1 => i ≤ bx.length ∧ (∀ k, k < i → Short ls bx k) ∧ ∃ z7 z8, At (Cva v0 v1 v2 z7 z8 ls bx pl i i w) I1 a w1) (fun i => bx.length - i) ?_ 0 ⟨Nat.zero_le _, fun k hk => by omega, _, _, hA⟩
 clear hA
 rintro i a w1 ⟨hi, hl, z7, z8, hA⟩
 have hone := at_one hA
 have hC := cv_ok (ls := ls) (bx := bx) (pl := pl) (j := i) (i := i) (w := w) L0.one L1.one L2.one hone.1 hone.2
 rcases Nat.lt_or_ge i bx.length with hlt | hge
 · have hlt0 : i < ls.length := by omega
   refine wp_seq (jf hC (tv1_ok L1 (decide_eq_true (by omega))) (x := .normal) (n := 30) (post := I1) (by kernel_rfl) hA (fun a w1 hA => ?_))
   refine wp_seq (wp_block (wp_seq ?_))
   by_cases c1 : (ls.getD i []).length ≤ 60
   · by_cases c2 : (bx.getD i ([], [])).1.length ≤ 60
     · by_cases c3 : (bx.getD i ([], [])).2.length ≤ 60
       · have hs : Short ls bx i := ⟨c1, c2, c3⟩
         have hT2 := tv2_ok (v2 := v2) (z7 := z7) (z8 := z8) (pl := pl) (j := i) hG L0 L1 hlt0 hlt (decide_eq_false (by omega)) (decide_eq_false (by omega)) (decide_eq_false (by omega))
         refine jf hC hT2 (x := .normal) (n := 40) (post := I1) (by kernel_rfl) hA (fun a w1 hA => ?_)
         refine wp_seq (jf hC (t_app hT2 (tv3_ok hG hs)) (x := .normal) (n := 40) (post := I3) (by kernel_rfl) hA (fun a w1 hA => ?_))
         refine wp_seq (lists_grow L0.one L1.one L2.one hlt0 hlt hn hA (by kernel_rfl) (fun z7 z8 a w1 hA => ?_))
         have hone := at_one hA
         have hC := cv_ok (ls := ls) (bx := bx) (pl := pl) (j := i + 1) (i := i) (w := w) L0.one L1.one L2.one hone.1 hone.2
         have fin : ∀ {a : Act} {w1 : World}, At (Cva v0 v1 v2 z7 z8 ls bx pl (i + 1) i w) I6 a w1 → ∃ θ', (θ' ≤ bx.length ∧ (∀ k, k < θ' → Short ls bx k) ∧ ∃ z7 z8, At (Cva v0 v1 v2 z7 z8 ls bx pl θ' θ' w) I1 a w1) ∧ bx.length - θ' < bx.length - i := fun hA =>
          ⟨i + 1, ⟨hlt, fun k hk => by
           rcases Nat.lt_or_ge k i with h | h
           · exact hl k h
           · obtain rfl : k = i := by omega
             exact hs, z7, z8, at_reL hA [(0, 0), (1, 1), (2, 2), (3, 3), (4, 4), (27, 30), (28, 31), (29, 32), (5, 33)] (cH rfl <| cH rfl <| cH rfl <| cH rfl <| cH rfl <| cH rfl <| cH rfl <| cH rfl <| cH rfl prs_nil) rfl rfl (fun k hk => hk)⟩, by omega⟩
         cases hb : decide (0 ≤ rI ls i)
         · have hT5 := tv5_ok (v0 := v0) (v1 := v1) (z7 := z7) (z8 := z8) (j := i + 1) hG L2 (by omega) (by omega) hs hb rfl rfl
           refine jf hC hT5 (x := .normal) (n := 40) (post := I5) (by kernel_rfl) hA (fun a w1 hA => ?_)
           exact jf hC hT5 (x := .normal) (n := 30) (post := I6) (by kernel_rfl) hA (fun a w1 hA => fin hA)
         · have hT5 := tv5_ok (v0 := v0) (v1 := v1) (z7 := z7) (z8 := z8) (j := i + 1) hG L2 (by omega) (by omega) hs hb rfl rfl
           refine jf hC hT5 (x := .normal) (n := 40) (post := I5) (by kernel_rfl) hA (fun a w1 hA => ?_)
           exact jf hC hT5 (x := .normal) (n := 30) (post := I6) (by kernel_rfl) hA (fun a w1 hA => fin hA)
       · have hT2 := tv2_ok (v2 := v2) (z7 := z7) (z8 := z8) (pl := pl) (j := i) hG L0 L1 hlt0 hlt (decide_eq_false (by omega)) (decide_eq_false (by omega)) (decide_eq_true (by omega))
         exact jf hC hT2 (x := .ret) (n := 40) (post := [.val 6 (vp (.bool true))]) (by kernel_rfl) hA (fun a w1 hA => (at_ret rfl hA (fun v hv => ⟨by rw [vp_is.1 hv], hA.below⟩) : bodyPost Tryz.prog Tryz.f9 (LF w) .ret a w1))
     · cases c3 : decide (((bx.getD i ([], [])).2.length : Int) > 60)
       all_goals
        have hT2 := tv2_ok (v2 := v2) (z7 := z7) (z8 := z8) (pl := pl) (j := i) hG L0 L1 hlt0 hlt (decide_eq_false (by omega)) (decide_eq_true (by omega)) c3
        exact jf hC hT2 (x := .ret) (n := 40) (post := [.val 6 (vp (.bool true))]) (by kernel_rfl) hA (fun a w1 hA => (at_ret rfl hA (fun v hv => ⟨by rw [vp_is.1 hv], hA.below⟩) : bodyPost Tryz.prog Tryz.f9 (LF w) .ret a w1))
   · cases c2 : decide (((bx.getD i ([], [])).1.length : Int) > 60)
     all_goals
      cases c3 : decide (((bx.getD i ([], [])).2.length : Int) > 60)
      all_goals
       have hT2 := tv2_ok (v2 := v2) (z7 := z7) (z8 := z8) (pl := pl) (j := i) hG L0 L1 hlt0 hlt (decide_eq_true (by omega)) c2 c3
       exact jf hC hT2 (x := .ret) (n := 40) (post := [.val 6 (vp (.bool true))]) (by kernel_rfl) hA (fun a w1 hA => (at_ret rfl hA (fun v hv => ⟨by rw [vp_is.1 hv], hA.below⟩) : bodyPost Tryz.prog Tryz.f9 (LF w) .ret a w1))
 · obtain rfl : i = bx.length := by omega
   refine wp_seq (jf hC (tv1_ok L1 (decide_eq_false (by omega))) (x := .exit 0) (n := 30) (post := I1) (by kernel_rfl) hA (fun a w1 hA => ?_))
   exact hQ z7 z8 a w1 hl hA
end
end Sym
end Go.Proofs.YtccabfblgjcboaaGreatDoor
