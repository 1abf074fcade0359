/-
  DERIVED. GIVEN WITH THE SEED: THE CARDS: each row of YtgdnkbajagfijaaGreatDoorRows.lean that lists a variable, with what it lists TIED to the program's text (the seventh form; the later family's looks); each row that meets fmt, with fmt's text TOLD by the authors' own Lean function (tested against real Go, not proved from fmt's source: count such statements apart). THE CARD IS WHAT COUNTS. Prove the row's statement (the work); the ties are given (YtgdnkbajagfijaaGreatDoorTie.lean); close each card by the builder's one call (the guide's Derived/Test/ToyasCard.lean, 'card_holds'). Laid BY PROGRAM, IN A SANDBOX (cutbox-door.mjs). By AI agents, Wed Nov 11 2026. No macro, syntax, notation, axiom, sorry.
-/
import Derived.Test.YtgdnkbajagfijaaGreatDoorRows
import GoSem.ClaimSeven
namespace Go.Proofs.YtgdnkbajagfijaaGreatDoor
namespace Rows

/-- THE TIED CARD OF 'voussoirlaw07.CrackReconciles'. -/
def crackReconcilesCard : Claim7 := { stood := { row := crackReconcilesRow, standIns := [], harness := (true, "2a7c3a727a891b1ba79dba4005484a2ed0e1b29c46ce4d0b20f2951028d05ee0"), looks := true }, kinds := [], alts := [], laidByText := true, laidKinds := [.data, .data, .data, .sentinel, .sentinel], laidTests := true, laidLooks := .later }
def CrackReconcilesCardSaid : Prop := Claim7.holds Tryz.pinned (.plain (OpenSpec.ofChange crackReconcilesSpec)) crackReconcilesCard

/-- THE TIED CARD OF 'voussoirlaw07.CrackChecks'. -/
def crackChecksCard : Claim7 := { stood := { row := crackChecksRow, standIns := [], harness := (true, "2a7c3a727a891b1ba79dba4005484a2ed0e1b29c46ce4d0b20f2951028d05ee0"), looks := true }, kinds := [], alts := [], laidByText := true, laidKinds := [.data], laidTests := true, laidLooks := .later }
def CrackChecksCardSaid : Prop := Claim7.holds Tryz.pinned (.plain (OpenSpec.ofChange crackChecksSpec)) crackChecksCard

/-- THE TIED CARD OF 'voussoirlaw07.CrackBounds'. -/
def crackBoundsCard : Claim7 := { stood := { row := crackBoundsRow, standIns := [], harness := (true, "2a7c3a727a891b1ba79dba4005484a2ed0e1b29c46ce4d0b20f2951028d05ee0"), looks := true }, kinds := [], alts := [], laidByText := true, laidKinds := [.data, .data, .data, .sentinel, .sentinel], laidTests := true, laidLooks := .later }
def CrackBoundsCardSaid : Prop := Claim7.holds Tryz.pinned (.plain (OpenSpec.ofChange crackBoundsSpec)) crackBoundsCard

/-- THE TIED CARD OF 'voussoirlaw07.CrackAgrees'. -/
def crackAgreesCard : Claim7 := { stood := { row := crackAgreesRow, standIns := [], harness := (true, "2a7c3a727a891b1ba79dba4005484a2ed0e1b29c46ce4d0b20f2951028d05ee0"), looks := true }, kinds := [], alts := [], laidByText := true, laidKinds := [.data, .data, .data, .sentinel, .sentinel], laidTests := true, laidLooks := .later }
def CrackAgreesCardSaid : Prop := Claim7.holds Tryz.pinned (.plain (OpenSpec.ofChange crackAgreesSpec)) crackAgreesCard

/-- THE SECOND FORM's CARD OF 'voussoirlaw07.CrackReconciles'. -/
def crackReconcilesUptoCard : Claim7 := { stood := { row := crackReconcilesUptoRow, standIns := [], harness := (true, "2a7c3a727a891b1ba79dba4005484a2ed0e1b29c46ce4d0b20f2951028d05ee0"), looks := true }, kinds := [], alts := [], laidByText := true, laidKinds := [.data, .data, .data, .sentinel, .sentinel], laidTests := true, laidLooks := .later }
def CrackReconcilesUptoCardSaid : Prop := Claim7.holds Tryz.pinned (.plain (OpenSpec.upto crackReconcilesSpec)) crackReconcilesUptoCard

/-- THE SECOND FORM's CARD OF 'voussoirlaw07.CrackChecks'. -/
def crackChecksUptoCard : Claim7 := { stood := { row := crackChecksUptoRow, standIns := [], harness := (true, "2a7c3a727a891b1ba79dba4005484a2ed0e1b29c46ce4d0b20f2951028d05ee0"), looks := true }, kinds := [], alts := [], laidByText := true, laidKinds := [.data], laidTests := true, laidLooks := .later }
def CrackChecksUptoCardSaid : Prop := Claim7.holds Tryz.pinned (.plain (OpenSpec.upto crackChecksSpec)) crackChecksUptoCard

/-- THE SECOND FORM's CARD OF 'voussoirlaw07.CrackBounds'. -/
def crackBoundsUptoCard : Claim7 := { stood := { row := crackBoundsUptoRow, standIns := [], harness := (true, "2a7c3a727a891b1ba79dba4005484a2ed0e1b29c46ce4d0b20f2951028d05ee0"), looks := true }, kinds := [], alts := [], laidByText := true, laidKinds := [.data, .data, .data, .sentinel, .sentinel], laidTests := true, laidLooks := .later }
def CrackBoundsUptoCardSaid : Prop := Claim7.holds Tryz.pinned (.plain (OpenSpec.upto crackBoundsSpec)) crackBoundsUptoCard

/-- THE SECOND FORM's CARD OF 'voussoirlaw07.CrackAgrees'. -/
def crackAgreesUptoCard : Claim7 := { stood := { row := crackAgreesUptoRow, standIns := [], harness := (true, "2a7c3a727a891b1ba79dba4005484a2ed0e1b29c46ce4d0b20f2951028d05ee0"), looks := true }, kinds := [], alts := [], laidByText := true, laidKinds := [.data, .data, .data, .sentinel, .sentinel], laidTests := true, laidLooks := .later }
def CrackAgreesUptoCardSaid : Prop := Claim7.holds Tryz.pinned (.plain (OpenSpec.upto crackAgreesSpec)) crackAgreesUptoCard
end Rows
end Go.Proofs.YtgdnkbajagfijaaGreatDoor
