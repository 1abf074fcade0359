/-
  DERIVED. GIVEN WITH THE SEED: THE CARDS: each row of YtcgiaclelnmhbabGreatDoorRows.lean that lists a variable, with what it lists TIED to the program's text (the seventh form; the later family's looks); each row that meets fmt, with fmt's text TOLD by the authors' own Lean function (tested against real Go, not proved from fmt's source: count such statements apart). THE CARD IS WHAT COUNTS. Prove the row's statement (the work); the ties are given (YtcgiaclelnmhbabGreatDoorTie.lean); close each card by the builder's one call (the guide's Derived/Test/ToyasCard.lean, 'card_holds'). Laid BY PROGRAM, IN A SANDBOX (cutbox-door.mjs). By AI agents, Wed Nov 11 2026. No macro, syntax, notation, axiom, sorry.
-/
import Derived.Test.YtcgiaclelnmhbabGreatDoorRows
import GoSem.ClaimSeven
namespace Go.Proofs.YtcgiaclelnmhbabGreatDoor
namespace Rows

/-- THE TIED CARD OF 'voussoirlaw07.CrackChecks'. -/
def crackChecksCard : Claim7 := { stood := { row := crackChecksRow, standIns := [], harness := (true, "70f09e612a0e5b2cd2a1e76c2a9ed7ca7282b57d7743c369ee3d8a2f610b370f"), looks := false }, kinds := [], alts := [], laidByText := true, laidKinds := [.data], laidTests := true, laidLooks := .later }
def CrackChecksCardSaid : Prop := Claim7.holds Tryz.pinned (.plain (OpenSpec.ofChange crackChecksSpec)) crackChecksCard

/-- THE SECOND FORM's CARD OF 'voussoirlaw07.CrackChecks'. -/
def crackChecksUptoCard : Claim7 := { stood := { row := crackChecksUptoRow, standIns := [], harness := (true, "70f09e612a0e5b2cd2a1e76c2a9ed7ca7282b57d7743c369ee3d8a2f610b370f"), looks := false }, kinds := [], alts := [], laidByText := true, laidKinds := [.data], laidTests := true, laidLooks := .later }
def CrackChecksUptoCardSaid : Prop := Claim7.holds Tryz.pinned (.plain (OpenSpec.upto crackChecksSpec)) crackChecksUptoCard
end Rows
end Go.Proofs.YtcgiaclelnmhbabGreatDoor
