/-
  DERIVED. GIVEN WITH THE SEED: THE CARDS: each row of YtobfdjojhfpakaaGreatDoorRows.lean that lists a variable, with what it lists TIED to the program's text (the seventh form; the later family's looks); each row that meets fmt, with fmt's text TOLD by the authors' own Lean function (tested against real Go, not proved from fmt's source: count such statements apart). THE CARD IS WHAT COUNTS. Prove the row's statement (the work); the ties are given (YtobfdjojhfpakaaGreatDoorTie.lean); close each card by the builder's one call (the guide's Derived/Test/ToyasCard.lean, 'card_holds'). Laid BY PROGRAM, IN A SANDBOX (cutbox-door.mjs). By AI agents, Wed Nov 11 2026. No macro, syntax, notation, axiom, sorry.
-/
import Derived.Test.YtobfdjojhfpakaaGreatDoorRows
import GoSem.ClaimSeven
namespace Go.Proofs.YtobfdjojhfpakaaGreatDoor
namespace Rows

/-- THE TIED CARD OF 'voussoirlaw04.MovingFactors'. -/
def movingFactorsCard : Claim7 := { stood := { row := movingFactorsRow, standIns := [], harness := (true, "55d2ec6b29cbeafff84022fec13330414a8ae4cb280df2487b1cc8c3d70dc07a"), looks := true }, kinds := [], alts := [], laidByText := true, laidKinds := [.data, .data, .data, .sentinel, .sentinel], laidTests := true, laidLooks := .later }
def MovingFactorsCardSaid : Prop := Claim7.holds Tryz.pinned (.plain (OpenSpec.ofChange movingFactorsSpec)) movingFactorsCard

/-- THE TIED CARD OF 'voussoirlaw04.MovingLanes'. -/
def movingLanesCard : Claim7 := { stood := { row := movingLanesRow, standIns := [], harness := (true, "55d2ec6b29cbeafff84022fec13330414a8ae4cb280df2487b1cc8c3d70dc07a"), looks := true }, kinds := [], alts := [], laidByText := true, laidKinds := [.data, .data, .data, .sentinel, .sentinel], laidTests := true, laidLooks := .later }
def MovingLanesCardSaid : Prop := Claim7.holds Tryz.pinned (.plain (OpenSpec.ofChange movingLanesSpec)) movingLanesCard

/-- THE TIED CARD OF 'voussoirlaw04.MovingTurns'. -/
def movingTurnsCard : Claim7 := { stood := { row := movingTurnsRow, standIns := [], harness := (true, "55d2ec6b29cbeafff84022fec13330414a8ae4cb280df2487b1cc8c3d70dc07a"), looks := true }, kinds := [], alts := [], laidByText := true, laidKinds := [.data, .data, .data, .sentinel, .sentinel], laidTests := true, laidLooks := .later }
def MovingTurnsCardSaid : Prop := Claim7.holds Tryz.pinned (.plain (OpenSpec.ofChange movingTurnsSpec)) movingTurnsCard

/-- THE TIED CARD OF 'voussoirlaw04.MovingJoined'. -/
def movingJoinedCard : Claim7 := { stood := { row := movingJoinedRow, standIns := [], harness := (true, "55d2ec6b29cbeafff84022fec13330414a8ae4cb280df2487b1cc8c3d70dc07a"), looks := true }, kinds := [], alts := [], laidByText := true, laidKinds := [.data, .data, .data, .sentinel, .sentinel], laidTests := true, laidLooks := .later }
def MovingJoinedCardSaid : Prop := Claim7.holds Tryz.pinned (.plain (OpenSpec.ofChange movingJoinedSpec)) movingJoinedCard

/-- THE SECOND FORM's CARD OF 'voussoirlaw04.MovingFactors'. -/
def movingFactorsUptoCard : Claim7 := { stood := { row := movingFactorsUptoRow, standIns := [], harness := (true, "55d2ec6b29cbeafff84022fec13330414a8ae4cb280df2487b1cc8c3d70dc07a"), looks := true }, kinds := [], alts := [], laidByText := true, laidKinds := [.data, .data, .data, .sentinel, .sentinel], laidTests := true, laidLooks := .later }
def MovingFactorsUptoCardSaid : Prop := Claim7.holds Tryz.pinned (.plain (OpenSpec.upto movingFactorsSpec)) movingFactorsUptoCard

/-- THE SECOND FORM's CARD OF 'voussoirlaw04.MovingLanes'. -/
def movingLanesUptoCard : Claim7 := { stood := { row := movingLanesUptoRow, standIns := [], harness := (true, "55d2ec6b29cbeafff84022fec13330414a8ae4cb280df2487b1cc8c3d70dc07a"), looks := true }, kinds := [], alts := [], laidByText := true, laidKinds := [.data, .data, .data, .sentinel, .sentinel], laidTests := true, laidLooks := .later }
def MovingLanesUptoCardSaid : Prop := Claim7.holds Tryz.pinned (.plain (OpenSpec.upto movingLanesSpec)) movingLanesUptoCard

/-- THE SECOND FORM's CARD OF 'voussoirlaw04.MovingTurns'. -/
def movingTurnsUptoCard : Claim7 := { stood := { row := movingTurnsUptoRow, standIns := [], harness := (true, "55d2ec6b29cbeafff84022fec13330414a8ae4cb280df2487b1cc8c3d70dc07a"), looks := true }, kinds := [], alts := [], laidByText := true, laidKinds := [.data, .data, .data, .sentinel, .sentinel], laidTests := true, laidLooks := .later }
def MovingTurnsUptoCardSaid : Prop := Claim7.holds Tryz.pinned (.plain (OpenSpec.upto movingTurnsSpec)) movingTurnsUptoCard

/-- THE SECOND FORM's CARD OF 'voussoirlaw04.MovingJoined'. -/
def movingJoinedUptoCard : Claim7 := { stood := { row := movingJoinedUptoRow, standIns := [], harness := (true, "55d2ec6b29cbeafff84022fec13330414a8ae4cb280df2487b1cc8c3d70dc07a"), looks := true }, kinds := [], alts := [], laidByText := true, laidKinds := [.data, .data, .data, .sentinel, .sentinel], laidTests := true, laidLooks := .later }
def MovingJoinedUptoCardSaid : Prop := Claim7.holds Tryz.pinned (.plain (OpenSpec.upto movingJoinedSpec)) movingJoinedUptoCard
end Rows
end Go.Proofs.YtobfdjojhfpakaaGreatDoor
