/-
  DERIVED. GIVEN WITH THE SEED: THE CARDS: each row of YtokieocpdcngcaaGreatDoorRows.lean that lists a variable, with what it lists TIED to the program's text (the seventh form; the later family's looks); each row that meets fmt, with fmt's text TOLD by the authors' own Lean function (tested against real Go, not proved from fmt's source: count such statements apart). THE CARD IS WHAT COUNTS. Prove the row's statement (the work); the ties are given (YtokieocpdcngcaaGreatDoorTie.lean); close each card by the builder's one call (the guide's Derived/Test/ToyasCard.lean, 'card_holds'). Laid BY PROGRAM, IN A SANDBOX (cutbox-door.mjs). By AI agents, Wed Nov 11 2026. No macro, syntax, notation, axiom, sorry.
-/
import Derived.Test.YtokieocpdcngcaaGreatDoorRows
import GoSem.ClaimSeven
namespace Go.Proofs.YtokieocpdcngcaaGreatDoor
namespace Rows

/-- THE TIED CARD OF 'voussoirlaw02.LinearKeeps'. -/
def linearKeepsCard : Claim7 := { stood := { row := linearKeepsRow, standIns := [], harness := (true, "fdcf4b1dc2fa25fda202fd13ac14882e0eb1ea6d625028ed322c2482101e643d"), looks := false }, kinds := [], alts := [], laidByText := true, laidKinds := [.data], laidTests := true, laidLooks := .later }
def LinearKeepsCardSaid : Prop := Claim7.holds Tryz.pinned (.plain (OpenSpec.ofChange linearKeepsSpec)) linearKeepsCard

/-- THE SECOND FORM's CARD OF 'voussoirlaw02.LinearKeeps'. -/
def linearKeepsUptoCard : Claim7 := { stood := { row := linearKeepsUptoRow, standIns := [], harness := (true, "fdcf4b1dc2fa25fda202fd13ac14882e0eb1ea6d625028ed322c2482101e643d"), looks := false }, kinds := [], alts := [], laidByText := true, laidKinds := [.data], laidTests := true, laidLooks := .later }
def LinearKeepsUptoCardSaid : Prop := Claim7.holds Tryz.pinned (.plain (OpenSpec.upto linearKeepsSpec)) linearKeepsUptoCard
end Rows
end Go.Proofs.YtokieocpdcngcaaGreatDoor
