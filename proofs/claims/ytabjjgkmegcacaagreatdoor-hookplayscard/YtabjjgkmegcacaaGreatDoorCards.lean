/-
  DERIVED. GIVEN WITH THE SEED: THE CARDS: each row of YtabjjgkmegcacaaGreatDoorRows.lean that lists a variable, with what it lists TIED to the program's text (the seventh form; the later family's looks); each row that meets fmt, with fmt's text TOLD by the authors' own Lean function (tested against real Go, not proved from fmt's source: count such statements apart). THE CARD IS WHAT COUNTS. Prove the row's statement (the work); the ties are given (YtabjjgkmegcacaaGreatDoorTie.lean); close each card by the builder's one call (the guide's Derived/Test/ToyasCard.lean, 'card_holds'). Laid BY PROGRAM, IN A SANDBOX (cutbox-door.mjs). By AI agents, Wed Nov 11 2026. No macro, syntax, notation, axiom, sorry.
-/
import Derived.Test.YtabjjgkmegcacaaGreatDoorRows
import GoSem.ClaimSeven
namespace Go.Proofs.YtabjjgkmegcacaaGreatDoor
namespace Rows

/-- THE TIED CARD OF 'gatehouselaw.HookPlays'. -/
def hookPlaysCard : Claim7 := { stood := { row := hookPlaysRow, standIns := [], harness := (true, "67713c0c8163885cc27b3d510a3be49696131a061c295c17f3b55ec47b01ad24"), looks := true }, kinds := [], alts := [], laidByText := true, laidKinds := [.handle, .data], laidTests := true, laidLooks := .later }
def HookPlaysCardSaid : Prop := Claim7.holds Tryz.pinned (.plain (OpenSpec.ofChange hookPlaysSpec)) hookPlaysCard

/-- THE SECOND FORM's CARD OF 'gatehouselaw.HookPlays'. -/
def hookPlaysUptoCard : Claim7 := { stood := { row := hookPlaysUptoRow, standIns := [], harness := (true, "67713c0c8163885cc27b3d510a3be49696131a061c295c17f3b55ec47b01ad24"), looks := true }, kinds := [], alts := [], laidByText := true, laidKinds := [.handle, .data], laidTests := true, laidLooks := .later }
def HookPlaysUptoCardSaid : Prop := Claim7.holds Tryz.pinned (.plain (OpenSpec.upto hookPlaysSpec)) hookPlaysUptoCard
end Rows
end Go.Proofs.YtabjjgkmegcacaaGreatDoor
