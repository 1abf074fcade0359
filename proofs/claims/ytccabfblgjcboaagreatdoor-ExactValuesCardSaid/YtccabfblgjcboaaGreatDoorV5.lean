/- Package exact: Trim. -/
import Derived.Test.YtccabfblgjcboaaGreatDoorV1
import Derived.Test.YtccabfblgjcboaaGreatDoorShelf
set_option linter.all false

namespace Go.Proofs.YtccabfblgjcboaaGreatDoor
open Go Go.RowKit Go.Proofs Lim
theorem val_take_zero {l : List Nat} {k : Nat} (hk : k < l.length) (h0 : l[k]?.getD 0 = 0) : val (l.take (k + 1)) = val (l.take k) := by
 rw [cG l k hk, h0]; simp
theorem trim_take {l : List Nat} {k : Nat} (hk : k < l.length) (h0 : l[k]?.getD 0 ≠ 0) : Trim (l.take (k + 1)) := by
 intro hne
 simp only [take_succ_get l k hk, List.getLast_append, List.getLast_singleton]
 simpa using h0
def NatPost (w : World) (n : Nat) (e : Ending) (w' : World) : Prop := ∃ v, e = .returned v ∧ co w v n ∧ w = w'
theorem trim_any (xs : List Nat) (v : Value) (w : World) (hv : Sl w v xs) (hmax : (xs.length : Int) ≤ 4611686018427387904) :
 Calls Tryz.prog 143 #[v] w (NatPost w (val xs)) := by
 obtain ⟨⟨ao, cap, rfl, hc1, hc2, hr⟩, hok, typ⟩ := hv
 have HTy := Lib.hid typ
 clear typ
 unfold maxLen at hc2
 have HR := Lib.hid hr
 have HO := Lib.hid hok
 clear hr hok
 go_enter Tryz.func143, Tryz.ntmps143
 go_wp2_with fail
 go_loop [3] (fun i => ∃ k, k ≤ xs.length ∧ i = .int .i64 (k : Int) ∧ val (xs.take k) = val xs) (fun i => (intOf i).toNat)
 case atStart => exact ⟨xs.length, Nat.le_refl _, rfl, by simp⟩
 case round =>
  obtain ⟨k, hk, rfl, hval⟩ := hrel
  have HV := Lib.hid hval
  clear hval
  by_cases hk0 : 0 < k
  · obtain ⟨j, rfl⟩ : ∃ j, k = j + 1 := ⟨k - 1, by omega⟩
    obtain ⟨b, off, rfl, hrow⟩ := HR.out (by omega)
    have hcell : w.cell? ⟨b, off + j, none⟩ = some (u (xs[j]?.getD 0)) := hrow j (by omega)
    have HRow := Lib.hid hrow
    clear hrow
    by_cases hz : xs[j]?.getD 0 = 0
    · have hzz := hz
      rw [hz] at hcell
      have HZ := Lib.hid hzz
      clear hz hzz
      go_wp2_with fail
      go_round
      case rel => exact ⟨j, by omega, rfl, by rw [← HV.out, val_take_zero (by omega) HZ.out]⟩
      case measure => simp [intOf]
    · have HZ := Lib.hid hz
      have hb : (((xs[j]?.getD 0 : Nat) : Int) == 0) = false := by rw [beq_eq_false_iff_ne]; omega
      generalize hsg : xs[j]?.getD 0 = s at *
      have H2 := Lib.hid hsg
      clear hsg hz
      go_wp2_with fail
      go_ret
      have hlt : (xs.take (j + 1)).length = j + 1 := by rw [List.length_take]; omega
      refine ⟨_, rfl, ⟨xs.take (j + 1), ⟨⟨some ⟨b, off, none⟩, j + 1, by rw [hlt]; rfl, by omega, by unfold maxLen; omega, fun _ => ⟨b, off, rfl, ?_⟩⟩, HO.out.take _, ?_⟩, trim_take (by omega) (by rw [H2.out]; intro h; subst h; simp at hb), HV.out⟩, rfl⟩
      · intro i hi
        rw [HRow.out i (by omega), List.getElem?_take, if_pos (by omega)]
      · intro a n c e _
        injection e with e
        exact HTy.out a _ _ (by rw [e]) (by omega)
  · obtain rfl : k = 0 := by omega
    clear hk0
    go_wp2_with fail
    go_ret
    refine ⟨_, rfl, ⟨[], ⟨⟨ao, 0, rfl, by simp, by unfold maxLen; omega, fun h => absurd h (by simp)⟩, Ok.nil, fun a n c e hn => by injection e with _ e; omega⟩, fun h => absurd rfl h, by simpa using HV.out⟩, rfl⟩
theorem word_any (x : Nat) (w : World) (hx : x < B) : Calls Tryz.prog 119 #[u x] w (NatNew w x) := by
 go_enter Tryz.func119, Tryz.ntmps119
 go_wp2_with fail
 have hb : Blk (w.alloc (.cells ([x].map u).toArray 23)) w.heap.size [x] := Blk.new w [x]
 have hs := Sl.of_blk hb (Ok.nil.cons hx) 0 1 1 (by simp) (by simp) (by unfold maxLen; omega)
 refine (trim_any [x] _ _ hs (by simp)).mono ?_
 rintro e w' ⟨v, rfl, hn, rfl⟩
 go_wp2_with fail
 go_ret
 exact ⟨v, rfl, by simpa [val] using hn, (Below.refl _ _).alloc (Nat.le_refl _) _⟩
end Go.Proofs.YtccabfblgjcboaaGreatDoor
