/-
  DERIVED. GIVEN WITH THE SEED: THE CARDS: each row of YtdopipkmcnkdjaaGreatDoorRows.lean that lists a variable, with what it lists TIED to the program's text (the seventh form; the later family's looks); each row that meets fmt, with fmt's text TOLD by the authors' own Lean function (tested against real Go, not proved from fmt's source: count such statements apart). THE CARD IS WHAT COUNTS. Prove the row's statement (the work); the ties are given (YtdopipkmcnkdjaaGreatDoorTie.lean); close each card by the builder's one call (the guide's Derived/Test/ToyasCard.lean, 'card_holds'). Laid BY PROGRAM, IN A SANDBOX (cutbox-door.mjs). By AI agents, Wed Nov 11 2026. No macro, syntax, notation, axiom, sorry.
-/
import Derived.Test.YtdopipkmcnkdjaaGreatDoorRows
import GoSem.ClaimSeven
namespace Go.Proofs.YtdopipkmcnkdjaaGreatDoor
namespace Rows

/-- THE TIED CARD OF 'voussoirlaw07.CrackReconciles'. -/
def crackReconcilesCard : Claim7 := { stood := { row := crackReconcilesRow, standIns := [], harness := (true, "86a1ff026aad98a8162cd3a8ad3b7df12d2b774b11a89bcaf0121804b7de0508"), looks := true }, kinds := [], alts := [], laidByText := true, laidKinds := [.data, .data, .data, .sentinel, .sentinel], laidTests := true, laidLooks := .later }
def CrackReconcilesCardSaid : Prop := Claim7.holds Tryz.pinned (.plain (OpenSpec.ofChange crackReconcilesSpec)) crackReconcilesCard

/-- THE SECOND FORM's CARD OF 'voussoirlaw07.CrackReconciles'. -/
def crackReconcilesUptoCard : Claim7 := { stood := { row := crackReconcilesUptoRow, standIns := [], harness := (true, "86a1ff026aad98a8162cd3a8ad3b7df12d2b774b11a89bcaf0121804b7de0508"), looks := true }, kinds := [], alts := [], laidByText := true, laidKinds := [.data, .data, .data, .sentinel, .sentinel], laidTests := true, laidLooks := .later }
def CrackReconcilesUptoCardSaid : Prop := Claim7.holds Tryz.pinned (.plain (OpenSpec.upto crackReconcilesSpec)) crackReconcilesUptoCard
end Rows
end Go.Proofs.YtdopipkmcnkdjaaGreatDoor
