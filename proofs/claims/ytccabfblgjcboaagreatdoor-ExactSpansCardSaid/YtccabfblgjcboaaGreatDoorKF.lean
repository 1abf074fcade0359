/- From a walk to a row. -/
import Derived.Test.YtccabfblgjcboaaGreatDoorK5
import Derived.Test.YtccabfblgjcboaaGreatDoorCards
import Derived.Test.YtccabfblgjcboaaGreatDoorTie
import Derived.WalkKit
import Derived.ProofKit
import Derived.OpenShut
import Derived.LaidMore
import Derived.LaidLaws
import Derived.Lib.LaidTab
import Derived.Shelf.Vars
import Derived.Deep.DeepHandedRow
import Derived.Deep.DeepWitnessRowRef
import Derived.Carry
set_option linter.unusedVariables false
set_option linter.unusedSimpArgs false

namespace Go.Proofs.YtccabfblgjcboaaGreatDoor
open Go Go.RowKit Go.Proofs Lim
open Go.ChangeShapes Go.WideShapes Go.ChangeAt
theorem own : ownKnob Tryz.prog.godebug = none := by kernel_rfl
theorem gTab : Tryz.prog.globalNamed "math/bits.deBruijn64tab" = some 1 := by kernel_rfl
theorem gSyn : Tryz.prog.globalNamed "strconv.ErrSyntax" = some 2 := by kernel_rfl
theorem gRng : Tryz.prog.globalNamed "strconv.ErrRange" = some 3 := by kernel_rfl
theorem tTab : (Tryz.prog.globals[1]?).bind (fun g => Tryz.prog.underlying g.type) = some (.array 64 5) := by kernel_rfl
theorem cTab : (Tryz.prog.globals[1]?).map (fun g => Tryz.prog.cellsOf g.type) = some 64 := by kernel_rfl
theorem c8 : Tryz.prog.cellsOf 5 = 1 := by kernel_rfl
theorem tSyn : (Tryz.prog.globals[2]?).map (·.type) = some 141 := by kernel_rfl
theorem tRng : (Tryz.prog.globals[3]?).map (·.type) = some 141 := by kernel_rfl
theorem uErr : ∃ ms, Tryz.prog.underlying 141 = some (.interface ms) := ⟨_, Tryz.underlying141⟩
theorem laid_parts {W : World} (h : laidMetH Tryz.prog Rows.exactReadsRow.laid W) : ∃ ps, DataW.LaidVars Tryz.prog W Rows.exactReadsRow.laid ps := by
  have h' : laidMet Tryz.prog Rows.exactReadsRow.laid W := h
  obtain ⟨ps, h1, _⟩ := h'
  exact ⟨ps, h1⟩
set_option maxRecDepth 100000 in
theorem gr_of_laid {W : World} (h : laidMetH Tryz.prog Rows.exactReadsRow.laid W) (hs : W.ShapedOpen Tryz.prog) : Gr W := by
  obtain ⟨ps, ⟨_, _, _, _, _, _, _, _, _, _, ⟨g1, t1, cs1, f1, p1, q1, hg1, ht1, hv1, hd1, ⟨_, _, _, _, _, _, _, _, _, _, ⟨g3, t3, cs3, f3, p3, q3, hg3, ht3, hv3, hd3, ⟨g4, t4, cs4, f4, p4, q4, hg4, ht4, hv4, hd4, _, _⟩, _⟩, _⟩, _⟩, _⟩⟩ := laid_parts h
  obtain rfl := Option.some.inj (gTab.symm.trans hg1)
  obtain rfl := Option.some.inj (gRng.symm.trans hg3)
  obtain rfl := Option.some.inj (gSyn.symm.trans hg4)
  obtain ⟨ms, hi⟩ := uErr
  refine ⟨?_, ?_, ?_, ?_, ?_⟩
  · have h0 : ((begin Tryz.prog (fun _ _ => 0) default).world.heap[(7 : Nat)]?).bind Obj.row? ≠ none := by
      intro h
      have : (((begin Tryz.prog (fun _ _ => 0) default).world.heap[(7 : Nat)]?).bind Obj.row?).isSome = true := by kernel_rfl
      rw [h] at this
      cases this
    cases hh : ((begin Tryz.prog (fun _ _ => 0) default).world.heap[(7 : Nat)]?).bind Obj.row? with
    | none => exact absurd hh h0
    | some x =>
      obtain ⟨cs, hc, _⟩ := hs.1 7 x.1 x.2 (by decide) hh
      exact (Array.getElem?_eq_some_iff.1 hc).1
  · have ht : Tryz.prog.underlying t1 = some (.array 64 5) := by
      have := tTab
      cases hx : Tryz.prog.globals[1]? with
      | none => rw [hx] at ht1; cases ht1
      | some g => rw [hx] at this ht1; cases ht1; exact this
    have hc : Tryz.prog.cellsOf t1 = 64 := by
      have := cTab
      cases hx : Tryz.prog.globals[1]? with
      | none => rw [hx] at ht1; cases ht1
      | some g => rw [hx] at this ht1; cases ht1; exact Option.some.inj this
    have hcs := Lib.cells_of_tab (zs := Lib.deBruijn64tab.map Int.ofNat) (k := .u8) ht Tryz.underlying5 c8 hc hd1
    have hv : Lib.TabIs Tryz.prog W "math/bits.deBruijn64tab" .u8 (Lib.deBruijn64tab.map Int.ofNat) := by
      unfold Lib.TabIs
      rw [hv1, ← hcs]
    intro j hj
    have := hv.cell gTab j (by simpa using hj)
    rw [this]
    simp [List.getD, List.getElem?_map, hj]
  · exact cell_of_shapedOpen_int (t := 3) (zero := #[.int .i64 0]) hs (by decide) (by kernel_rfl) rfl (by kernel_rfl) (by kernel_rfl) Tryz.underlying3
  · obtain rfl := Option.some.inj (tSyn.symm.trans ht4)
    obtain ⟨f', u, v, hc, _⟩ := iface_of_trod hi hd4
    refine ⟨u, v, ?_⟩
    have := World.var?_cell gSyn hv4 0
    rw [Array.eq_one_of_toList hc] at this
    simpa using this
  · obtain rfl := Option.some.inj (tRng.symm.trans ht3)
    obtain ⟨f', u, v, hc, _⟩ := iface_of_trod hi hd3
    refine ⟨u, v, ?_⟩
    have := World.var?_cell gRng hv3 0
    rw [Array.eq_one_of_toList hc] at this
    simpa using this
theorem door_met (os : Os) (args : Array Value) : laidMetH Tryz.prog Rows.exactReadsRow.laid ((World.doorLaid Tryz.prog 400 os).forCall (fun _ _ => 0) ⟨#[], args, []⟩).memory :=
  laidMet_of_run' 8 (by kernel_rfl) (by kernel_rfl)
end Go.Proofs.YtccabfblgjcboaaGreatDoor

namespace Go.Proofs.YtccabfblgjcboaaGreatDoor
open Go Go.RowKit Go.Proofs Lim
open Go.ChangeShapes Go.WideShapes Go.ChangeAt Go.ChangeMaps
theorem laidOut : laidOutB Tryz.prog = true := by kernel_rfl
section
variable {H : Type} {enc : TypeId × Value → H} {W : World} {b0 : Nat} {sp : Nat → Bool} {held : Bool}
set_option maxRecDepth 100000 in
theorem open_ends {n : Nat} {cs : List Value} {x : DataW H × List MemPlace} (h : DataW.trod enc Tryz.prog W b0 sp held n 64 cs = some x) : ∃ s t : ByteArray, cs = [.string s, .string t] := by
  obtain ⟨xs, n, _, rfl, hl, hlen, hf⟩ := DataW.trod_struct Tryz.underlying64 h
  match xs, hlen with
  | [x0, x1], _ =>
    have f0 := hf 0 _ rfl
    have f1 := hf 1 _ rfl
    obtain ⟨s, e0, _⟩ := DataW.trod_string Tryz.underlying9 f0
    obtain ⟨t, e1, _⟩ := DataW.trod_string Tryz.underlying9 f1
    have hl : cs.length = 2 := hl.trans (by kernel_rfl)
    match cs, hl with
    | [c0, c1], _ =>
      have e0 : [c0] = [Value.string s] := e0
      have e1 : [c1] = [Value.string t] := e1
      injection e0 with e0
      injection e1 with e1
      exact ⟨s, t, by rw [e0, e1]⟩
end
end Go.Proofs.YtccabfblgjcboaaGreatDoor
