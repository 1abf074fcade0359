/- Package exact: Lists ListsE Loops. -/
import Derived.Test.YtccabfblgjcboaaGreatDoorF4
import Derived.Test.YtccabfblgjcboaaGreatDoorF23
set_option linter.all false

namespace Go.Proofs.YtccabfblgjcboaaGreatDoor
open Go Go.RowKit Go.Proofs Lim
namespace Sym
def ElIs (w : World) : List Cl → List Value → Prop
 | [], vs => vs = []
 | x :: xs, vs => ∃ us ws, vs = us ++ ws ∧ (∃ f, x.p w f ∧ us = (List.range x.n).map f) ∧ ElIs w xs ws
def elN : List Cl → Nat
 | [] => 0
 | x :: xs => x.n + elN xs
theorem ElIs.length {w : World} : ∀ {e : List Cl} {vs : List Value}, ElIs w e vs → vs.length = elN e
 | [], _, h => by rw [show _ = [] from h]; rfl
 | x :: xs, _, ⟨us, ws, h1, ⟨f, _, h2⟩, h3⟩ => by subst h1 h2; simp [elN, h3.length]
theorem ElIs.append {w : World} : ∀ {e e' : List Cl} {vs : List Value}, ElIs w (e ++ e') vs → ∃ us ws, vs = us ++ ws ∧ ElIs w e us ∧ ElIs w e' ws
 | [], _, vs, h => ⟨[], vs, rfl, rfl, h⟩
 | x :: xs, e', _, ⟨us, ws, h1, h2, h3⟩ => by
  obtain ⟨us', ws', h4, h5, h6⟩ := ElIs.append (e := xs) h3
  subst h1 h4
  exact ⟨us ++ us', ws', by simp, ⟨us, us', rfl, h2, h5⟩, h6⟩
structure Cl.St (x : Cl) : Prop where
 below : ∀ w w' f, Below w.heap.size w w' → x.p w f → x.p w' f
 only : ∀ R w w' f cs t, w.heap[R]? = some (.cells cs t (0, 0)) → sepT t → (∀ x, cs[0]? = some x → noSl x = true) → jb R w w' → x.p w f → x.p w' f
 num : ∀ w f, x.p w f → noSl (f 0) = true
 cell : ∀ w f j, x.p w f → j < x.n → (f j).oneCell' = true
 pos : 0 < x.n
 noL : x.L = []
theorem ElIs.mono {w w' : World} : ∀ {e : List Cl} {vs : List Value}, (∀ x ∈ e, ∀ f, x.p w f → x.p w' f) → ElIs w e vs → ElIs w' e vs
 | [], _, _, h => h
 | x :: xs, _, hm, ⟨us, ws, h1, ⟨f, h2, h2'⟩, h3⟩ => ⟨us, ws, h1, ⟨f, hm x (by simp) f h2, h2'⟩, h3.mono (fun y hy => hm y (by simp [hy]))⟩
theorem ElIs.one {w : World} : ∀ {e : List Cl} {vs : List Value}, (∀ x ∈ e, x.St) → ElIs w e vs → ∀ v ∈ vs, v.oneCell' = true
 | [], _, _, h, v, hv => by rw [show _ = [] from h] at hv; simp at hv
 | x :: xs, _, hs, ⟨us, ws, h1, ⟨f, h2, h2'⟩, h3⟩, v, hv => by
  subst h1 h2'
  rcases List.mem_append.1 hv with hv | hv
  · obtain ⟨j, hj, rfl⟩ := List.mem_map.1 hv
    exact (hs x (by simp)).cell w f j h2 (by simpa using hj)
  · exact h3.one (fun y hy => hs y (by simp [hy])) v hv
theorem ElIs.first {w : World} {e : List Cl} {vs : List Value} (hs : ∀ x ∈ e, x.St) (h : ElIs w e vs) : ∀ v, vs[0]? = some v → noSl v = true := by
 intro v hv
 cases e with
 | nil => rw [show vs = [] from h] at hv; simp at hv
 | cons x xs =>
  obtain ⟨us, ws, rfl, ⟨f, h2, rfl⟩, h3⟩ := h
  have hp := (hs x (by simp)).pos
  rw [List.getElem?_append_left (by simpa using hp)] at hv
  have : v = f 0 := by
   rw [List.getElem?_map, List.getElem?_range hp] at hv
   simpa using hv.symm
  rw [this]
  exact (hs x (by simp)).num w f h2
theorem st_nil : ∀ x ∈ ([] : List Cl), x.St := fun t h => by simp at h
theorem st_cons {a : Cl} {l : List Cl} (h : a.St) (k : ∀ t ∈ l, t.St) : ∀ t ∈ a :: l, t.St := fun t ht => by
 rcases List.mem_cons.1 ht with rfl | ht
 · exact h
 · exact k t ht
theorem clQ_st (r : Rat) (k : Nat) : (clQ r k).St := by
 have h := clQ_ok (okT := []) (B := 0) (fun t h => by simp at h) r k
 exact ⟨h.below, fun R w w' f cs t ho ht hz hb hp => ⟨hp.1.other' ho ht.1 hz hb, hp.2⟩, fun w f hp => h.num w f rfl hp, h.cell, show 0 < 4 by decide, rfl⟩
theorem clV_st {v : Value} (h1 : v.oneCell' = true) (h2 : noSl v = true) : (jm v).St :=
 ⟨fun _ _ _ _ h => h, fun _ _ _ _ _ _ _ _ _ _ h => h, fun w f h => by rw [show f 0 = v from h]; exact h2, fun w f j h hj => by
  have hj : j < 1 := hj
  obtain rfl : j = 0 := by omega
  rw [show f 0 = v from h]; exact h1, show 0 < 1 by decide, rfl⟩
def Ls (n : Nat) (w : World) (v : Value) (es : List (List Cl)) : Prop := (∀ e ∈ es, ∀ x ∈ e, x.St) ∧ ∃ ao cap, v = .slice ao es.length cap ∧ es.length ≤ cap ∧ (cap : Int) ≤ 9223372036854775807 ∧
 (0 < es.length → ∃ b off, ao = some ⟨b, off, none⟩ ∧ ∀ i e, es[i]? = some e → ∃ vs, vs.length = n ∧ (∀ j u, vs[j]? = some u → w.cell? ⟨b, off + (i * n + j), none⟩ = some u) ∧ ElIs w e vs)
theorem Ls.below {n : Nat} {w w' : World} {v : Value} {es : List (List Cl)} (h : Ls n w v es) (hb : Below w.heap.size w w') : Ls n w' v es := by
 obtain ⟨hs, ao, cap, hv, h1, h2, h3⟩ := h
 refine ⟨hs, ao, cap, hv, h1, h2, fun hn => ?_⟩
 obtain ⟨b, off, ha, h4⟩ := h3 hn
 refine ⟨b, off, ha, fun i e hi => ?_⟩
 obtain ⟨vs, h5, h6, h7⟩ := h4 i e hi
 exact ⟨vs, h5, fun j u hj => (hb.cell (World.block_lt_of_cell? w _ (h6 j u hj))).trans (h6 j u hj), h7.mono (fun x hx f hp => (hs e (List.mem_of_getElem? hi) x hx).below w w' f hb hp)⟩
theorem Ls.one {n : Nat} {w : World} {v : Value} {es : List (List Cl)} (h : Ls n w v es) : v.oneCell' = true := by
 obtain ⟨_, ao, cap, rfl, _⟩ := h; rfl
theorem Ls.len {n : Nat} {w : World} {v : Value} {es : List (List Cl)} (h : Ls n w v es) : (es.length : Int) ≤ 9223372036854775807 := by
 obtain ⟨_, ao, cap, hv, h1, h2, _⟩ := h; omega
def OwnL (B t n : Nat) (w : World) (z : Value) (es : List (List Cl)) : Prop :=
 (∀ e ∈ es, ∀ x ∈ e, x.St) ∧ (∀ g, z.ownBlock = some g → ∀ cs, w.heap[g]? = some (.cells cs t (0, 0)) → ∀ x, cs[0]? = some x → noSl x = true) ∧
 ∃ cs, w.ownsRow B t n z es.length cs ∧ ∀ i e, es[i]? = some e → ElIs w e ((cs.drop (i * n)).take n)
section
variable {B t n : Nat} {w w' : World} {z : Value} {es : List (List Cl)} {e : List Cl}
theorem OwnL.lt (h : OwnL B t n w z es) : ∀ k, z.ownBlock = some k → B ≤ k ∧ k < w.heap.size := by
 obtain ⟨_, _, cs, h3, _⟩ := h
 exact h3.lt
theorem OwnL.one (h : OwnL B t n w z es) : z.oneCell' = true := by
 obtain ⟨_, _, cs, ⟨_, ⟨rfl, _⟩ | ⟨g, cap, cur, rfl, _⟩⟩, _⟩ := h <;> rfl
theorem OwnL.typed (h : OwnL B t n w z es) {k : Nat} (hk : z.ownBlock = some k) : ∃ cs, w.heap[k]? = some (.cells cs t (0, 0)) := by
 obtain ⟨_, _, cs, ⟨_, ⟨rfl, _⟩ | ⟨g, cap, cur, rfl, _, hg, _⟩⟩, _⟩ := h
 · simp [Value.ownBlock] at hk
 · simp [Value.ownBlock] at hk
   subst hk
   exact ⟨cur, hg⟩
theorem OwnL.kept {row : Option Nat} (h : OwnL B t n w z es) (hg : w.grownBy w' row) (hne : z.ownBlock = none ∨ z.ownBlock ≠ row) (hm : ∀ e ∈ es, ∀ x ∈ e, ∀ f, x.p w f → x.p w' f) : OwnL B t n w' z es := by
 obtain ⟨hs, hz, cs, h3, h4⟩ := h
 refine ⟨hs, fun g hk cs' hc x hx => ?_, cs, h3.kept hg hne, fun i e hi => (h4 i e hi).mono (hm e (List.mem_of_getElem? hi))⟩
 have hlt := (h3.lt g hk).2
 rw [hg.block g hlt (by rcases hne with h | h <;> simp_all)] at hc
 exact hz g hk cs' hc x hx
theorem OwnL.below (h : OwnL B t n w z es) (hb : Below w.heap.size w w') : OwnL B t n w' z es := by
 have hs := h.1
 exact h.kept (row := none) ⟨hb.os, hb.tape, hb.output, hb.size, fun k hk _ => hb.block k hk⟩ (by cases z.ownBlock <;> simp) (fun e he x hx f hp => (hs e he x hx).below w w' f hb hp)
theorem OwnL.only {R : Nat} {cs : Array Value} {t' : Nat} (h : OwnL B t n w z es) (ho : w.heap[R]? = some (.cells cs t' (0, 0))) (ht : sepT t') (hz : ∀ x, cs[0]? = some x → noSl x = true) (hR : z.ownBlock ≠ some R) (hb : jb R w w') : OwnL B t n w' z es := by
 have hs := h.1
 exact h.kept (row := some R) ⟨hb.os, hb.tape, hb.output, Nat.le_of_eq hb.size.symm, fun k _ hk => hb.block k (fun e => hk (by rw [e]))⟩ (.inr hR) (fun e he x hx f hp => (hs e he x hx).only R w w' f cs t' ho ht hz hb hp)
theorem OwnL.ls (h : OwnL B t n w z es) : Ls n w z es := by
 obtain ⟨hs, _, cs, h3, h4⟩ := h
 have h3' := h3
 obtain ⟨hl, ⟨rfl, h0⟩ | ⟨g, cap, cur, rfl, hb, hg, hn, hc, hsz, ht⟩⟩ := h3
 · refine ⟨hs, none, 0, by rw [h0], by omega, by decide, fun hn => by omega⟩
 · refine ⟨hs, _, cap, rfl, hn, by simp only [maxLen] at hc; omega, fun _ => ⟨g, 0, rfl, fun i e hi => ⟨_, ?_, ?_, h4 i e hi⟩⟩⟩
   · have hil := (List.getElem?_eq_some_iff.1 hi).1
     have : (i + 1) * n ≤ es.length * n := Nat.mul_le_mul_right n hil
     rw [Nat.add_mul, Nat.one_mul] at this
     simp only [List.length_take, List.length_drop]
     omega
   · intro j u hj
     have := h3'.cells (g := g) rfl (i * n + j) u (by
      rw [List.getElem?_take] at hj
      split at hj
      · rw [List.getElem?_drop] at hj; exact hj
      · cases hj)
     rw [jo] at this
     exact this
theorem OwnL.fresh {k : Nat} (h : w.heap[k]? = some (.cells #[] t (0, 0))) (hB : B ≤ k) : OwnL B t n w (.slice (some ⟨k, 0, none⟩) 0 0) [] :=
 ⟨fun e he => by simp at he, fun g hg cs hc x hx => by
  simp [Value.ownBlock] at hg
  subst hg
  rw [h] at hc
  injection hc with hc
  injection hc with hc
  subst hc
  simp at hx, [], ⟨by simp, .inr ⟨k, 0, #[], rfl, hB, h, Nat.le_refl _, by decide, by simp, by simp⟩⟩, fun i e hi => by simp at hi⟩
theorem els_snoc {cs vs : List Value} (hl : cs.length = es.length * n) (hvn : vs.length = n) (h : ∀ i e, es[i]? = some e → ElIs w e ((cs.drop (i * n)).take n)) (hv : ElIs w e vs) : ∀ i e', (es ++ [e])[i]? = some e' → ElIs w e' (((cs ++ vs).drop (i * n)).take n) := by
 intro i e' hi
 rcases Nat.lt_or_ge i es.length with hlt | hge
 · rw [List.getElem?_append_left hlt] at hi
   have : (i + 1) * n ≤ es.length * n := Nat.mul_le_mul_right n hlt
   rw [Nat.add_mul, Nat.one_mul] at this
   rw [List.drop_append_of_le_length (by omega), List.take_append_of_le_length (by simp; omega)]
   exact h i e' hi
 · have hil : i < es.length + 1 := by
    have := (List.getElem?_eq_some_iff.1 hi).1
    simpa using this
   obtain rfl : i = es.length := by omega
   rw [List.getElem?_append_right (Nat.le_refl _), Nat.sub_self] at hi
   obtain rfl : e' = e := by simpa using hi.symm
   rw [List.drop_append, List.drop_of_length_le (by omega), hl, Nat.sub_self, List.drop_zero, List.nil_append, List.take_of_length_le (by omega)]
   exact hv
end
end Sym
open Go Go.RowKit Go.Proofs Lim
namespace Sym
def clO (B t n : Nat) (z : Value) (es : List (List Cl)) (ne : World → List Value → Prop) : Cl := ⟨z.ownBlock.toList.map (fun g => ⟨g, es.length * n, n, t, ne⟩), 1, false, fun w f => f 0 = z ∧ OwnL B t n w z es⟩
def clN (B t n : Nat) (es : List (List Cl)) : Cl := ⟨[], 1, false, fun w f => OwnL B t n w (f 0) es⟩
def dead : World → List Value → Prop := fun _ _ => False
section
variable {B t n : Nat} {z : Value} {es : List (List Cl)} {e : List Cl} {ne : World → List Value → Prop}
theorem clO_ok {okT : List Nat} {B0 : Nat} (ht : ∀ t ∈ okT, sepT t) (hz : z.oneCell' = true) : (clO B t n z es ne).Ok okT B0 := by
 refine ⟨fun w w' f hb h => ⟨h.1, h.2.below hb⟩, fun w w' R f cs t' _ hR ho hm hz _ hb h => ⟨h.1, h.2.only ho (ht _ hm) hz (fun e => hR ?_) hb⟩, fun _ _ h _ => absurd h (by simp [clO]), ?_⟩
 · simp [clO, e]
 · intro w f j h hj
   have hj : j < 1 := hj
   obtain rfl : j = 0 := by omega
   rw [h.1]; exact hz
theorem clN_ok {B0 : Nat} : (clN B t n es).Ok [] B0 := by
 refine ⟨fun w w' f hb h => h.below hb, fun w w' R f cs t' _ _ _ hm => by simp at hm, fun _ _ h _ => absurd h (by simp [clN]), ?_⟩
 intro w f j h hj
 have hj : j < 1 := hj
 obtain rfl : j = 0 := by omega
 exact h.one
theorem clO_L {g : Gw} (h : g ∈ (clO B t n z es ne).L) : g.t = t ∧ g.m = es.length * n ∧ g.n = n ∧ g.e = ne := by
 simp only [clO, List.mem_map] at h
 obtain ⟨k, _, rfl⟩ := h
 exact ⟨rfl, rfl, rfl, rfl⟩
theorem gr_st {x : Cl} {L : List Gw} (h : x.St) : x.Grows L := by
 rintro g hg w w' f ⟨cs, vs, h1, h2, h3, _, _, _, _, _, ho⟩ hp
 exact h.only g.R w w' f cs g.t h1 h2 h3 ho hp
theorem gr_W {v : Value} {L : List Gw} : (clW v).Grows L := fun _ _ _ _ _ _ h => h
theorem gr_V {v : Value} {L : List Gw} : (jm v).Grows L := fun _ _ _ _ _ _ h => h
theorem OwnL.grew {g : Gw} {w w' : World} (h : OwnL B t n w z es) (hg : Grew g w w') (hL : g.t ≠ t ∨ g.m = es.length * n) : OwnL B t n w' z es := by
 obtain ⟨cs, vs, h1, h2, h3, h4, h5, h5', h6, h7, ho⟩ := hg
 by_cases hR : z.ownBlock = some g.R
 · have hm : g.m = es.length * n := by
    rcases hL with hL | hL
    · obtain ⟨cs', hc⟩ := h.typed hR
      rw [h1] at hc
      injection hc with hc
      injection hc with _ hc
      exact absurd hc hL
    · exact hL
   obtain ⟨hs, hz, xs, ⟨hl, ⟨rfl, h0⟩ | ⟨b, cap, cur, rfl, hb, hbc, hn, hc, hsz, ht⟩⟩, he⟩ := h
   · simp [Value.ownBlock] at hR
   · have hR : b = g.R := by simpa [Value.ownBlock] using hR
     subst hR
     rw [h1] at hbc
     injection hbc with hbc
     injection hbc with e1 e2
     subst e1
     have hlen : (cs.toList.take g.m ++ vs ++ cs.toList.drop (g.m + g.n)).length = cs.size := by
      simp only [List.length_append, List.length_take, List.length_drop, Array.length_toList]
      omega
     refine ⟨hs, fun k hk cs' hc' x hx => ?_, xs, ⟨hl, .inr ⟨g.R, cap, _, rfl, hb, e2 ▸ h6, hn, hc, ?_, ?_⟩⟩, fun i e hi => (he i e hi).mono (fun x hx f hp => (hs e (List.mem_of_getElem? hi) x hx).only g.R w w' f cs g.t h1 h2 h3 ho hp)⟩
     · have hk : k = g.R := by simpa [Value.ownBlock] using hk.symm
       subst hk
       rw [h6] at hc'
       injection hc' with hc'
       injection hc' with hc'
       subst hc'
       simp only [List.getElem?_toArray] at hx
       rcases Nat.eq_zero_or_pos g.m with hm0 | hm0
       · rw [hm0, List.take_zero, List.nil_append] at hx
         rcases Nat.eq_zero_or_pos g.n with hn0 | hn0
         · have : vs = [] := List.eq_nil_of_length_eq_zero (by omega)
           subst this
           rw [hn0, List.nil_append, List.drop_zero] at hx
           exact h3 x (by simpa using hx)
         · rw [List.getElem?_append_left (by omega)] at hx
           exact h5' x hx
       · rw [List.append_assoc, List.getElem?_append_left (by simp; omega), List.getElem?_take, if_pos hm0] at hx
         exact h3 x (by simpa using hx)
     · simpa using hlen.trans hsz
     · have hle : es.length * n ≤ cs.size := by omega
       show List.take (es.length * n) (cs.toList.take g.m ++ vs ++ cs.toList.drop (g.m + g.n)) = xs
       rw [List.append_assoc, List.take_append_of_le_length (by simp; omega), List.take_take, ← ht, hm]
       simp
 · exact h.only h1 h2 h3 hR ho
theorem gr_O {L : List Gw} (hL : ∀ g ∈ L, g.t ≠ t ∨ g.m = es.length * n) : (clO B t n z es ne).Grows L := fun g hg w w' f hw h => ⟨h.1, h.2.grew hw (hL g hg)⟩
theorem gr_N {L : List Gw} (hs : ∀ x ∈ e, x.St) (hL : ∀ g ∈ L, g.t ≠ t ∨ g.m = es.length * n ∧ g.n = n ∧ g.e = (fun w vs => ElIs w e vs)) : (clN B t n (es ++ [e])).Grows L := by
 intro g hg w w' f hw h
 have h : OwnL B t n w (f 0) (es ++ [e]) := h
 show OwnL B t n w' (f 0) (es ++ [e])
 generalize f 0 = z at h ⊢
 have hw0 := hw
 obtain ⟨cs, vs, h1, h2, h3, h4, h5, h5', h6, h7, ho⟩ := hw
 by_cases hR : z.ownBlock = some g.R
 · obtain ⟨hm, hgn, hge⟩ : g.m = es.length * n ∧ g.n = n ∧ g.e = (fun w vs => ElIs w e vs) := by
    rcases hL g hg with hL | hL
    · obtain ⟨cs', hc⟩ := h.typed hR
      rw [h1] at hc
      injection hc with hc
      injection hc with _ hc
      exact absurd hc hL
    · exact hL
   rw [hge] at h7
   obtain ⟨hs', hz, xs, ⟨hl, ⟨rfl, h0⟩ | ⟨b, cap, cur, rfl, hb, hbc, hn, hc, hsz, ht⟩⟩, he⟩ := h
   · simp [Value.ownBlock] at hR
   · have hR : b = g.R := by simpa [Value.ownBlock] using hR
     subst hR
     rw [h1] at hbc
     injection hbc with hbc
     injection hbc with e1 e2
     subst e1
     have hel : (es ++ [e]).length = es.length + 1 := by simp
     rw [hel, Nat.add_mul, Nat.one_mul] at hl ht
     have hxl : (xs.take (es.length * n)).length = es.length * n := by rw [List.length_take]; omega
     have hlen : (cs.toList.take g.m ++ vs ++ cs.toList.drop (g.m + g.n)).length = cs.size := by
      simp only [List.length_append, List.length_take, List.length_drop, Array.length_toList]
      omega
     have hold : ∀ i e', es[i]? = some e' → ElIs w' e' (((xs.take (es.length * n)).drop (i * n)).take n) := by
      intro i e' hi
      have hil := (List.getElem?_eq_some_iff.1 hi).1
      have hle : (i + 1) * n ≤ es.length * n := Nat.mul_le_mul_right n hil
      rw [Nat.add_mul, Nat.one_mul] at hle
      have h8 := he i e' (by rw [List.getElem?_append_left hil]; exact hi)
      rw [List.drop_take, List.take_take, Nat.min_eq_left (by omega)]
      exact h8.mono (fun x hx f hp => (hs' e' (by simp [List.mem_of_getElem? hi]) x hx).only g.R w w' f cs g.t h1 h2 h3 ho hp)
     refine ⟨hs', fun k hk cs' hc' x hx => ?_, xs.take (es.length * n) ++ vs, ⟨by rw [List.length_append, hxl, h4, hgn, hel, Nat.add_mul, Nat.one_mul], .inr ⟨g.R, cap, _, rfl, hb, e2 ▸ h6, hn, hc, by simpa using hlen.trans hsz, ?_⟩⟩, els_snoc hxl (h4.trans hgn) hold h7⟩
     · have hk : k = g.R := by simpa [Value.ownBlock] using hk.symm
       subst hk
       rw [h6] at hc'
       injection hc' with hc'
       injection hc' with hc'
       subst hc'
       simp only [List.getElem?_toArray] at hx
       rcases Nat.eq_zero_or_pos g.m with hm0 | hm0
       · rw [hm0, List.take_zero, List.nil_append] at hx
         rcases Nat.eq_zero_or_pos g.n with hn0 | hn0
         · have : vs = [] := List.eq_nil_of_length_eq_zero (by omega)
           subst this
           rw [hn0, List.nil_append, List.drop_zero] at hx
           exact h3 x (by simpa using hx)
         · rw [List.getElem?_append_left (by omega)] at hx
           exact h5' x hx
       · rw [List.append_assoc, List.getElem?_append_left (by simp; omega), List.getElem?_take, if_pos hm0] at hx
         exact h3 x (by simpa using hx)
     · have hx : xs.take (es.length * n) = cs.toList.take (es.length * n) := by
        rw [← ht, List.take_take, Nat.min_eq_left (by omega)]
       show List.take ((es ++ [e]).length * n) (cs.toList.take g.m ++ vs ++ cs.toList.drop (g.m + g.n)) = xs.take (es.length * n) ++ vs
       rw [hel, Nat.add_mul, Nat.one_mul, hx, hm, hgn, List.take_append_of_le_length (by simp only [List.length_append, List.length_take, Array.length_toList]; omega)]
       exact List.take_of_length_le (by simp only [List.length_append, List.length_take, Array.length_toList]; omega)
 · exact h.only h1 h2 h3 hR ho
end
theorem hd_fa {o : Oper} {s f : Nat} {xs : List Operand} (h : opHd o = some (.fa s f, xs)) : ∃ x, o.op = .fieldAddr s x f ∧ xs = [x] := by
 unfold opHd at h
 split at h <;> first
  | (rename_i h0; simp only [Option.some.injEq, Prod.mk.injEq, Hd.fa.injEq, reduceCtorEq, false_and] at h; try (obtain ⟨⟨rfl, rfl⟩, rfl⟩ := h; exact ⟨_, h0, rfl⟩))
  | (split at h <;> simp at h)
  | simp at h
theorem hd_bs {o : Oper} {t n : Nat} {xs : List Operand} (h : opHd o = some (.bs t n, xs)) : ∃ parts, o.op = .buildSlice t n parts ∧ parts.toList.map (·.1) = List.range parts.toList.length ∧ xs = parts.toList.map (·.2) := by
  unfold opHd at h
  split at h <;> first
    | (rename_i h0
       split at h
       · rename_i h1
         simp only [Option.some.injEq, Prod.mk.injEq, Hd.bs.injEq] at h
         obtain ⟨⟨rfl, rfl⟩, rfl⟩ := h
         exact ⟨_, h0, of_decide_eq_true h1, rfl⟩
       · simp at h)
    | (split at h <;> simp at h)
    | simp at h
theorem hd_mf {o : Oper} {f : Nat} {xs : List Operand} (h : opHd o = some (.mf f, xs)) : ∃ fs, o.op = .makeFunc (.func f) fs #[] ∧ xs = fs.toList := by
 unfold opHd at h
 split at h <;> first
  | (rename_i h0; simp only [Option.some.injEq, Prod.mk.injEq, Hd.mf.injEq, reduceCtorEq, false_and] at h; try (obtain ⟨rfl, rfl⟩ := h; exact ⟨_, h0, rfl⟩))
  | (split at h <;> simp at h)
  | simp at h
section
variable {csz : List Nat} {numc : List Bool} {okT : List Nat} {nt : Nat} {cl : List Cl} {w0 : World} {w : World} {v x : Value} {p1 p2 : jQ} {res : RPat} {c i : Nat} {n : Nat} {es : List (List Cl)} {e pre mid post : List Cl}
theorem op_isC {y : Cl} (h : cl[c]? = some y) (hn : y.n = 1) (hp : ∀ w f g, f 0 = g 0 → y.p w f → y.p w g) : (op c).is (mkC csz numc okT nt cl w0) w v ↔ y.p w (fun _ => v) := by
 constructor
 · rintro ⟨f, hE, hv⟩
   simp only [mkC, h] at hE
   have : v = f 0 := by simpa [List.range_succ] using hv
   exact hp _ _ _ this.symm hE
 · intro hv
   refine ⟨fun _ => v, ?_, rfl⟩
   simp only [mkC, h]
   exact hv
theorem jn {B t : Nat} {z : Value} {ne : World → List Value → Prop} (h : cl[c]? = some (clO B t n z es ne)) : (op c).is (mkC csz numc okT nt cl w0) w v ↔ v = z ∧ OwnL B t n w z es :=
 op_isC h rfl (fun w f g e hp => ⟨e ▸ hp.1, hp.2⟩)
theorem op_isN {B t : Nat} (h : cl[c]? = some (clN B t n es)) : (op c).is (mkC csz numc okT nt cl w0) w v ↔ OwnL B t n w v es :=
 op_isC h rfl (fun w f g e hp => by show OwnL _ _ _ _ (g 0) _; rw [← e]; exact hp)
def Res (cl : List Cl) : List Grp → List Cl → Prop
 | [], xs => xs = []
 | .cls c n :: gs, xs => ∃ x xs', xs = x :: xs' ∧ cl[c]? = some x ∧ n = x.n ∧ Res cl gs xs'
 | .lit _ :: _, _ => False
theorem res_are : ∀ {gs : List Grp} {xs : List Cl} {vs : List Value}, Res cl gs xs → ElIs w xs vs → jL (mkC csz numc okT nt cl w0) w gs vs
 | [], _, vs, h, hv => by rw [show _ = [] from h] at hv; exact hv
 | .cls c n :: gs, _, vs, ⟨x, xs', rfl, h1, h2, h3⟩, ⟨us, ws, e1, ⟨f, h4, e2⟩, h5⟩ => ⟨us, ws, e1, ⟨f, by simp only [mkC, h1]; exact h4, by rw [h2]; exact e2⟩, res_are h3 h5⟩
 | .lit _ :: _, _, _, h, _ => h.elim
theorem are_res : ∀ {gs : List Grp} {xs : List Cl} {vs : List Value}, Res cl gs xs → jL (mkC csz numc okT nt cl w0) w gs vs → ElIs w xs vs
 | [], _, vs, h, hv => by rw [show _ = [] from h]; exact hv
 | .cls c n :: gs, _, vs, ⟨x, xs', rfl, h1, h2, h3⟩, ⟨us, ws, e1, ⟨f, h4, e2⟩, h5⟩ => ⟨us, ws, e1, ⟨f, by simp only [mkC, h1] at h4; exact h4, by rw [← h2]; exact e2⟩, are_res h3 h5⟩
 | .lit _ :: _, _, _, h, _ => h.elim
def PZ (csz : List Nat) (numc : List Bool) (okT : List Nat) (nt : Nat) (cl : List Cl) (w0 : World) (p : jQ) (n : Nat) (es : List (List Cl)) : Prop := ∀ w v, Below w0.heap.size w0 w → p.is (mkC csz numc okT nt cl w0) w v → Ls n w v es
theorem pzW (h : cl[c]? = some (clW x)) (hx : Ls n w0 x es) : PZ csz numc okT nt cl w0 (op c) n es := fun w v hb hp => by rw [(cS h).1 hp]; exact hx.below hb
theorem pzO {B t : Nat} {z : Value} {ne : World → List Value → Prop} (h : cl[c]? = some (clO B t n z es ne)) : PZ csz numc okT nt cl w0 (op c) n es := fun w v hb hp => by rw [((jn h).1 hp).1]; exact ((jn h).1 hp).2.ls
theorem e_lenZ {t : Nat} (ht : Tryz.prog.underlying t = some (.slice (Tryz.prog.elem t))) (h1 : PZ csz numc okT nt cl w0 p1 n es) (h3 : RV csz numc okT nt cl w0 res (ii (es.length : Int))) : V csz numc okT nt cl w0 (.blt .len [t] 3) [p1] res := by
 intro w ρ oo xs ho hb hvs
 obtain ⟨c, hop, hc, hat, hty, rfl⟩ := hd_blt ho
 obtain ⟨v1, _, e1, h4, e2⟩ := hvs
 subst e2
 obtain ⟨_, ao, cap, rfl, _⟩ := h1 _ _ hb h4
 refine ⟨_, w, ?_, h3 w, Below.refl _ _⟩
 have he : c.args.map ρ = #[Value.slice ao es.length cap] := by
  apply Array.ext'
  simpa using e1
 show (execOp ρ oo).run Tryz.prog w = _
 simp only [execOp, hop, resolve, hc, he, Sem.run_bind, Sem.run_pure, Result.andThen_ok, invoke, builtin, hat, hty]
 simp [Sem.run_bind, run_len_slice _ _ _ _ _ _ ht, Result.andThen, goInt]
theorem e_ixZ {t : Nat} (ht : Tryz.prog.underlying t = some (.slice (Tryz.prog.elem t))) (he : (Tryz.prog.info? (Tryz.prog.elem t)).map (·.size) = some n) (h1 : PV csz numc okT nt cl w0 p1 x) (hx : ∀ w v, Below w0.heap.size w0 w → p1.is (mkC csz numc okT nt cl w0) w v → Ls n w v es) (h2 : PV csz numc okT nt cl w0 p2 (ii (i : Int))) (hi : i < es.length) (h3 : RV csz numc okT nt cl w0 res (jI x (i * n))) : V csz numc okT nt cl w0 (.ix t) [p1, p2] res := by
 intro w ρ oo xs ho hb hvs
 obtain ⟨a, b, hop, rfl⟩ := hd_ix ho
 obtain ⟨v1, _, e1, h4, v2, _, e2, h5, e3⟩ := hvs
 have hl := hx _ _ hb h4
 obtain rfl := h1 _ _ h4
 obtain rfl := h2 _ _ h5
 subst e2
 simp only [List.map_cons, List.map_nil, List.cons.injEq] at e1
 obtain ⟨ea, eb, _⟩ := e1
 obtain ⟨_, ao, cap, rfl, h6, h7, h8⟩ := hl
 obtain ⟨k, off, rfl, hr⟩ := h8 (by omega)
 obtain ⟨inf, hinf, hsz⟩ := Option.map_eq_some_iff.1 he
 refine ⟨_, w, ?_, h3 w, Below.refl _ _⟩
 show (execOp ρ oo).run Tryz.prog w = _
 have hs : (sizeOf (Tryz.prog.elem t)).run Tryz.prog w = .ok n w := by rw [← hsz]; exact jP hinf w
 simp only [execOp, hop, ea, eb, Sem.run_bind, run_indexAt_slice _ _ _ _ _ _ _ ht]
 rw [if_pos (by omega)]
 simp [hs, Result.andThen, jo, jI]
theorem e_faZ {s f j off m : Nat} (hf : (fieldOf Tryz.prog s f).map (fun fl => (fl.offset, (Tryz.prog.info? fl.type).map (·.size))) = some (off, some (m + 1))) (h1 : PV csz numc okT nt cl w0 p1 (jI x j)) (hx : ∃ a n c, x = .slice (some ⟨a, n, none⟩) es.length c) (h3 : RV csz numc okT nt cl w0 res (jI x (j + off))) : V csz numc okT nt cl w0 (.fa s f) [p1] res := by
 intro w ρ oo xs ho hb hvs
 obtain ⟨a, hop, rfl⟩ := hd_fa ho
 obtain ⟨v1, _, e1, h4, e2⟩ := hvs
 obtain rfl := h1 _ _ h4
 subst e2
 simp only [List.map_cons, List.map_nil, List.cons.injEq] at e1
 obtain ⟨ea, _⟩ := e1
 obtain ⟨k, o, cp, rfl⟩ := hx
 obtain ⟨fl, hfl, e⟩ := Option.map_eq_some_iff.1 hf
 simp only [Prod.mk.injEq] at e
 obtain ⟨e1, e2⟩ := e
 obtain ⟨inf, hinf, hsz⟩ := Option.map_eq_some_iff.1 e2
 obtain ⟨fs, g1, g2⟩ := fieldOf_run hfl
 refine ⟨_, w, ?_, h3 w, Below.refl _ _⟩
 show (execOp ρ oo).run Tryz.prog w = _
 simp [execOp, hop, ea, jI, Instr.fieldAt, underlying, g1, g2, Instr.sureAddr, fieldPlace, jP hinf, hsz, jo, e1, Nat.add_assoc]
theorem Ls.real (h : Ls n w x es) (hi : i < es.length) : ∃ a n c, x = .slice (some ⟨a, n, none⟩) es.length c := by
 obtain ⟨_, ao, cap, rfl, h6, h7, h8⟩ := h
 obtain ⟨k, off, rfl, hr⟩ := h8 (by omega)
 exact ⟨k, off, cap, rfl⟩
theorem Ls.part (h : Ls n w x es) (hi : es[i]? = some (pre ++ mid ++ post)) : ∃ b off c ws, x = .slice (some ⟨b, off, none⟩) es.length c ∧ ElIs w mid ws ∧ ∀ j u, ws[j]? = some u → w.cell? ⟨b, off + (i * n + elN pre) + j, none⟩ = some u := by
 obtain ⟨_, ao, cap, rfl, h6, h7, h8⟩ := h
 have hil := (List.getElem?_eq_some_iff.1 hi).1
 obtain ⟨k, off, rfl, hr⟩ := h8 (by omega)
 obtain ⟨vs, g1, g2, g3⟩ := hr i _ hi
 obtain ⟨us, ws, e1, g4, g5⟩ := g3.append
 obtain ⟨us', ws', e2, g6, g7⟩ := g4.append
 subst e1 e2
 refine ⟨k, off, cap, ws', rfl, g7, fun j u hj => ?_⟩
 have := g2 (elN pre + j) u (by
  rw [List.append_assoc, List.getElem?_append_right (by rw [g6.length]; omega), g6.length, List.getElem?_append_left (by have := (List.getElem?_eq_some_iff.1 hj).1; omega)]
  rw [show elN pre + j - elN pre = j by omega]; exact hj)
 rw [show off + (i * n + elN pre) + j = off + (i * n + (elN pre + j)) by omega]
 exact this
theorem e_ldZ {t m : Nat} {gs : List Grp} (ht : (Tryz.prog.underlying t).map isAggD = some true) (hz : (Tryz.prog.info? t).map (·.size) = some m) (pre post : List Cl) (h1 : PV csz numc okT nt cl w0 p1 (jI x (i * n + elN pre))) (hx : ∀ w, Below w0.heap.size w0 w → Ls n w x es) (hi : es[i]? = some (pre ++ mid ++ post)) (hr : Res cl gs mid) (hm : elN mid = m) : V csz numc okT nt cl w0 (.ld t) [p1] (.val (.agg gs)) := by
 subst hm
 intro w ρ oo xs ho hb hvs
 obtain ⟨a, hop, rfl⟩ := hd_ld ho
 obtain ⟨v1, _, e1, h4, e2⟩ := hvs
 obtain rfl := h1 _ _ h4
 subst e2
 simp only [List.map_cons, List.map_nil, List.cons.injEq] at e1
 obtain ⟨ea, _⟩ := e1
 obtain ⟨b, off, cp, ws, rfl, g1, g2⟩ := (hx w hb).part hi
 obtain ⟨d, hd, hagg⟩ := Option.map_eq_some_iff.1 ht
 obtain ⟨inf, hinf, hsz⟩ := Option.map_eq_some_iff.1 hz
 refine ⟨.agg ws.toArray, w, ?_, ⟨ws, res_are hr g1, rfl⟩, Below.refl _ _⟩
 show (execOp ρ oo).run Tryz.prog w = _
 have := run_loadCells_list (P := Tryz.prog) (w := w) ⟨b, off + (i * n + elN pre), none⟩ ws (fun j v hj => by rw [jo]; exact g2 j v hj)
 rw [show ws.length = inf.size by rw [hsz, g1.length]] at this
 simp [execOp, hop, ea, jI, Instr.loadAt, Instr.sureAddr, loadVar, jW hd, hagg, jP hinf, this]
theorem e_ldZ1 {t : Nat} {y : Cl} (ht : (Tryz.prog.underlying t).map isAggD = some false) (pre post : List Cl) (h1 : PV csz numc okT nt cl w0 p1 (jI x (i * n + elN pre))) (hx : ∀ w, Below w0.heap.size w0 w → Ls n w x es) (hi : es[i]? = some (pre ++ [y] ++ post)) (hy : y.n = 1) (hc : cl[c]? = some y) : V csz numc okT nt cl w0 (.ld t) [p1] (.val (op c)) := by
 intro w ρ oo xs ho hb hvs
 obtain ⟨a, hop, rfl⟩ := hd_ld ho
 obtain ⟨v1, _, e1, h4, e2⟩ := hvs
 obtain rfl := h1 _ _ h4
 subst e2
 simp only [List.map_cons, List.map_nil, List.cons.injEq] at e1
 obtain ⟨ea, _⟩ := e1
 obtain ⟨b, off, cp, ws, rfl, ⟨us, ws', e1, ⟨f, g1, e2⟩, e3⟩, g2⟩ := (hx w hb).part hi
 obtain ⟨d, hd, hagg⟩ := Option.map_eq_some_iff.1 ht
 rw [hy] at e2
 have e3 : ws' = [] := e3
 subst e3 e2 e1
 have g2 : w.cell? ⟨b, off + (i * n + elN pre), none⟩ = some (f 0) := by simpa using g2 0 (f 0) (by simp [List.range_succ])
 refine ⟨f 0, w, ?_, ⟨f, by simp only [mkC, hc]; exact g1, by simp [List.range_succ]⟩, Below.refl _ _⟩
 show (execOp ρ oo).run Tryz.prog w = _
 simp [execOp, hop, ea, jI, Instr.loadAt, Instr.sureAddr, loadVar, jW hd, hagg, g2]
end
end Sym
open Go Go.RowKit Go.Proofs Lim
namespace Sym
def jG : Nat → Code → Code
 | 0, c => c
 | k + 1, .seq _ r => jG k r
 | _ + 1, c => c
def execF (S : Stat) (T : List cW) (n : Nat) : Nat → Code → St → Option St
 | 0, _, st => some st
 | k + 1, c, st => match c with
  | .seq x r => match exec S T n x st with
   | some (.normal, st') => execF S T n k r st'
   | _ => none
  | _ => none
def frontB (S : Stat) (T : List cW) (n k : Nat) (c : Code) (pre post : List Item) : Bool :=
 match entry pre 0 with
 | some ws => match execF S T n k c ⟨pre.length, ws⟩ with
  | some st' => meets (fun k => jM k st'.m) post []
  | none => false
 | none => false
section
variable {C : Ctx} {T : List cW} {Q : Exit → Act → World → Prop} {a : Act} {w : World}
theorem execF_is (hC : C.Ok) (hT : ∀ t ∈ T, t.Valid C) {n : Nat} : ∀ {k : Nat} {c : Code} {st st' : St} {a : Act} {w : World}, execF C.toStat T n k c st = some st' → Sat C st a w → (∀ a' w', Sat C st' a' w' → (jG k c).wp C.P Q a' w') → c.wp C.P Q a w
 | 0, c, st, st', a, w, h, hs, hQ => by
  simp [execF] at h; subst h
  exact hQ a w hs
 | k + 1, c, st, st', a, w, h, hs, hQ => by
  unfold execF at h
  split at h
  · split at h
    · rename_i x r _ st1 he
      refine wp_seq (wp_mono (exec_is hC hT n _ _ _ _ he a w hs) ?_)
      rintro e a' w' ⟨rfl, hs'⟩
      exact execF_is hC hT h hs' hQ
    · cases h
  · cases h
theorem front_is (hC : C.Ok) (hT : ∀ t ∈ T, t.Valid C) (n k : Nat) {c : Code} {pre : List Item} (post : List Item) (h : frontB C.toStat T n k c pre post = true) (hA : At C pre a w) (hQ : ∀ a' w', At C post a' w' → (jG k c).wp C.P Q a' w') : c.wp C.P Q a w := by
 unfold frontB at h
 split at h
 · rename_i ws hws
   split at h
   · rename_i st' he
     exact execF_is hC hT he (hA.sat hws) (fun a' w' hs => hQ a' w' (hs.meet h))
   · cases h
 · cases h
theorem At.turn {is is' : List Item} (hA : At C is a w) (h : jd C a w is [] → jd C a w is' []) : At C is' a w := ⟨hA.below, hA.defers, hA.size, h hA.items, hA.lim⟩
def gsN : List Grp → Nat
 | [] => 0
 | .lit _ :: l => 1 + gsN l
 | .cls _ n :: l => n + gsN l
theorem grps_len : ∀ {gs : List Grp} {vs : List Value}, jL C w gs vs → vs.length = gsN gs
 | [], _, h => by rw [show _ = [] from h]; rfl
 | .lit _ :: l, _, ⟨xs, ys, e, h1, h2⟩ => by rw [e, show xs = _ from h1]; simp [gsN, grps_len h2]; omega
 | .cls _ _ :: l, _, ⟨xs, ys, e, ⟨f, _, h1⟩, h2⟩ => by rw [e, h1]; simp [gsN, grps_len h2]
theorem at_boxR {fn : Func} {t ty : Nat} {gs : List Grp} {l : List Item} (hr : fn.results = #[.cell t ty]) (hd : (C.P.underlying ty).map isAggD = some true) (hz : (C.P.info? ty).map (·.size) = some (gsN gs)) (hA : At C (.box t ty gs :: l) a w) {Q : Ending → World → Prop} (h : ∀ v, (jQ.agg gs).is C w v → Q (.returned v) w) : bodyPost C.P fn Q .ret a w := by
 obtain ⟨k, vs, h1, _, _, h4, h5, _⟩ := hA.items
 refine ⟨hA.defers, .agg vs.toArray, ?_, h _ ⟨vs, h5, rfl⟩⟩
 obtain ⟨d, hd, hag⟩ := Option.map_eq_some_iff.1 hd
 obtain ⟨inf, hinf, hsz⟩ := Option.map_eq_some_iff.1 hz
 have hl := run_loadCells_list (P := C.P) (w := w) ⟨k, 0, none⟩ vs (fun j v hj => by rw [jo, Nat.zero_add]; simpa [World.cell?, h4] using hj)
 rw [grps_len h5, ← hsz] at hl
 have e1 : a.tmps.getD t undef = .pointer (some ⟨k, 0, none⟩) := by rw [Array.getD_eq_getD_getElem?, h1]; rfl
 rw [results_eq, hr]
 simp [resF, e1, asAddr, loadVar, jW hd, hag, jP hinf, hl]
theorem at_boxS {fn : Func} {t s ty : Nat} {gs : List Grp} {p : jQ} {l : List Item} (hr : fn.results = #[.cell t ty, .tmp s]) (hd : (C.P.underlying ty).map isAggD = some true) (hz : (C.P.info? ty).map (·.size) = some (gsN gs)) (hA : At C (.box t ty gs :: .val s p :: l) a w) {Q : Ending → World → Prop} (h : ∀ v u, (jQ.agg gs).is C w v → p.is C w u → Q (.returned (.tuple #[v, u])) w) : bodyPost C.P fn Q .ret a w := by
 obtain ⟨k, vs, h1, _, _, h4, h5, ⟨u, h6, h7⟩, _⟩ := hA.items
 refine ⟨hA.defers, .tuple #[.agg vs.toArray, u], ?_, h _ _ ⟨vs, h5, rfl⟩ h7⟩
 obtain ⟨d, hd, hag⟩ := Option.map_eq_some_iff.1 hd
 obtain ⟨inf, hinf, hsz⟩ := Option.map_eq_some_iff.1 hz
 have hl := run_loadCells_list (P := C.P) (w := w) ⟨k, 0, none⟩ vs (fun j v hj => by rw [jo, Nat.zero_add]; simpa [World.cell?, h4] using hj)
 rw [grps_len h5, ← hsz] at hl
 have e1 : a.tmps.getD t undef = .pointer (some ⟨k, 0, none⟩) := by rw [Array.getD_eq_getD_getElem?, h1]; rfl
 have e2 : a.tmps.getD s undef = u := by rw [Array.getD_eq_getD_getElem?, h6]; rfl
 rw [results_eq, hr]
 simp [resF, e1, e2, asAddr, loadVar, jW hd, hag, jP hinf, hl]
end
section
variable {csz : List Nat} {numc : List Bool} {okT : List Nat} {nt : Nat} {w0 : World} {a : Act} {w : World} {Q : Exit → Act → World → Prop}
theorem at_reL {csz' : List Nat} {numc' : List Bool} {okT' : List Nat} {cl cl' : List Cl} {is is' : List Item}
 (hA : At (mkC csz numc okT nt cl w0) is' a w) (l : List (Nat × Nat)) (h : ∀ p ∈ l, cl[p.2]? = cl'[p.1]?) (hz : cl[1000000]? = none) (hl : is' = is.map (Item.re (rOf l))) (hL : ∀ k ∈ (cl'.flatMap (·.L)).map (·.R), k ∈ (cl.flatMap (·.L)).map (·.R)) : At (mkC csz' numc' okT' nt cl' w0) is a w := by
 refine At.re (C := mkC csz numc okT nt cl w0) (C' := mkC csz' numc' okT' nt cl' w0) (r := rOf l) (fun c f hE => ?_) rfl hL rfl hl hA
 simp only [mkC] at hE ⊢
 split at hE
 · rename_i x hx
   rw [rOf_some hz h hx]
   exact hE
 · exact hE.elim
theorem rounds_at (N : Nat) (cl : Nat → List Cl) (is is' ie : List Item) (l : List (Nat × Nat)) {T T' : List cW} {n id : Nat} {c : Code}
 (hC : ∀ i, (mkC csz numc okT nt (cl i) w0).Ok) (hT : ∀ i, i < N → ∀ t ∈ T, t.Valid (mkC csz numc okT nt (cl i) w0)) (hr : segB ⟨Tryz.prog, csz, numc, okT, nt⟩ T n c is .normal is' = true)
 (hre : ∀ i, i < N → ∀ p ∈ l, (cl i)[p.2]? = (cl (i + 1))[p.1]?) (hz : ∀ i, (cl i)[1000000]? = none) (hl : is' = is.map (Item.re (rOf l))) (hL : ∀ i, i < N → ∀ k ∈ ((cl (i + 1)).flatMap (·.L)).map (·.R), k ∈ ((cl i).flatMap (·.L)).map (·.R))
 (hT' : ∀ t ∈ T', t.Valid (mkC csz numc okT nt (cl N) w0)) (he : segB ⟨Tryz.prog, csz, numc, okT, nt⟩ T' n c is (.exit id) ie = true)
 (hA : At (mkC csz numc okT nt (cl 0) w0) is a w) (hQ : ∀ a' w', At (mkC csz numc okT nt (cl N) w0) ie a' w' → Q .normal a' w') : (Code.block id (.loop c)).wp Tryz.prog Q a w := by
 refine jz (Θ := Nat) (fun i a w1 => i ≤ N ∧ At (mkC csz numc okT nt (cl i) w0) is a w1) (fun i => N - i) ?_ 0 ⟨Nat.zero_le _, hA⟩
 rintro i a w1 ⟨hi, hA⟩
 rcases Nat.lt_or_ge i N with hlt | hge
 · refine cE (hC i) (hT i hlt) hr hA (fun a' w' hA => ⟨i + 1, ⟨hlt, at_reL hA l (hre i hlt) (hz i) hl (hL i hlt)⟩, by show N - (i + 1) < N - i; omega⟩)
 · obtain rfl : i = N := by omega
   refine cE (hC i) hT' he hA (fun a' w' hA => ?_)
   simp only [Xt.to, Exit.then, Exit.inBlock, if_true]
   exact hQ a' w' hA
end
end Sym
end Go.Proofs.YtccabfblgjcboaaGreatDoor
