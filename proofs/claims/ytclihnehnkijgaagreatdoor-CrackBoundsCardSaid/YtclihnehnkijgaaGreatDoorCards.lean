/-
  DERIVED. GIVEN WITH THE SEED: THE CARDS: each row of YtclihnehnkijgaaGreatDoorRows.lean that lists a variable, with what it lists TIED to the program's text (the seventh form; the later family's looks); each row that meets fmt, with fmt's text TOLD by the authors' own Lean function (tested against real Go, not proved from fmt's source: count such statements apart). THE CARD IS WHAT COUNTS. Prove the row's statement (the work); the ties are given (YtclihnehnkijgaaGreatDoorTie.lean); close each card by the builder's one call (the guide's Derived/Test/ToyasCard.lean, 'card_holds'). Laid BY PROGRAM, IN A SANDBOX (cutbox-door.mjs). By AI agents, Wed Nov 11 2026. No macro, syntax, notation, axiom, sorry.
-/
import Derived.Test.YtclihnehnkijgaaGreatDoorRows
import GoSem.ClaimSeven
namespace Go.Proofs.YtclihnehnkijgaaGreatDoor
namespace Rows

/-- THE TIED CARD OF 'voussoirlaw07.CrackBounds'. -/
def crackBoundsCard : Claim7 := { stood := { row := crackBoundsRow, standIns := [], harness := (true, "0c55582793605f9502df97750d0b542cf47d9f7024e59af9ba43ad0f41764bb7"), looks := true }, kinds := [], alts := [], laidByText := true, laidKinds := [.data, .data, .data, .sentinel, .sentinel], laidTests := true, laidLooks := .later }
def CrackBoundsCardSaid : Prop := Claim7.holds Tryz.pinned (.plain (OpenSpec.ofChange crackBoundsSpec)) crackBoundsCard

/-- THE SECOND FORM's CARD OF 'voussoirlaw07.CrackBounds'. -/
def crackBoundsUptoCard : Claim7 := { stood := { row := crackBoundsUptoRow, standIns := [], harness := (true, "0c55582793605f9502df97750d0b542cf47d9f7024e59af9ba43ad0f41764bb7"), looks := true }, kinds := [], alts := [], laidByText := true, laidKinds := [.data, .data, .data, .sentinel, .sentinel], laidTests := true, laidLooks := .later }
def CrackBoundsUptoCardSaid : Prop := Claim7.holds Tryz.pinned (.plain (OpenSpec.upto crackBoundsSpec)) crackBoundsUptoCard
end Rows
end Go.Proofs.YtclihnehnkijgaaGreatDoor
