/-
  DERIVED. GIVEN WITH THE SEED: THE CARDS: each row of YtokieocpdcngcabGreatDoorRows.lean that lists a variable, with what it lists TIED to the program's text (the seventh form; the later family's looks); each row that meets fmt, with fmt's text TOLD by the authors' own Lean function (tested against real Go, not proved from fmt's source: count such statements apart). THE CARD IS WHAT COUNTS. Prove the row's statement (the work); the ties are given (YtokieocpdcngcabGreatDoorTie.lean); close each card by the builder's one call (the guide's Derived/Test/ToyasCard.lean, 'card_holds'). Laid BY PROGRAM, IN A SANDBOX (cutbox-door.mjs). By AI agents, Wed Nov 11 2026. No macro, syntax, notation, axiom, sorry.
-/
import Derived.Test.YtokieocpdcngcabGreatDoorRows
import GoSem.ClaimSeven
namespace Go.Proofs.YtokieocpdcngcabGreatDoor
namespace Rows

/-- THE TIED CARD OF 'voussoirlaw04.MovingLanes'. -/
def movingLanesCard : Claim7 := { stood := { row := movingLanesRow, standIns := [], harness := (true, "42f975ab3ff95b2948df99253d2cafbfdd320659bdf4b464f81ee46837417d40"), looks := true }, kinds := [], alts := [], laidByText := true, laidKinds := [.data, .data, .data, .sentinel, .sentinel], laidTests := true, laidLooks := .later }
def MovingLanesCardSaid : Prop := Claim7.holds Tryz.pinned (.plain (OpenSpec.ofChange movingLanesSpec)) movingLanesCard

/-- THE SECOND FORM's CARD OF 'voussoirlaw04.MovingLanes'. -/
def movingLanesUptoCard : Claim7 := { stood := { row := movingLanesUptoRow, standIns := [], harness := (true, "42f975ab3ff95b2948df99253d2cafbfdd320659bdf4b464f81ee46837417d40"), looks := true }, kinds := [], alts := [], laidByText := true, laidKinds := [.data, .data, .data, .sentinel, .sentinel], laidTests := true, laidLooks := .later }
def MovingLanesUptoCardSaid : Prop := Claim7.holds Tryz.pinned (.plain (OpenSpec.upto movingLanesSpec)) movingLanesUptoCard
end Rows
end Go.Proofs.YtokieocpdcngcabGreatDoor
