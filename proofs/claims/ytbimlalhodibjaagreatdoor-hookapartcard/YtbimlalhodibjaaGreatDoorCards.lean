/-
  DERIVED. GIVEN WITH THE SEED: THE CARDS: each row of YtbimlalhodibjaaGreatDoorRows.lean that lists a variable, with what it lists TIED to the program's text (the seventh form; the later family's looks); each row that meets fmt, with fmt's text TOLD by the authors' own Lean function (tested against real Go, not proved from fmt's source: count such statements apart). THE CARD IS WHAT COUNTS. Prove the row's statement (the work); the ties are given (YtbimlalhodibjaaGreatDoorTie.lean); close each card by the builder's one call (the guide's Derived/Test/ToyasCard.lean, 'card_holds'). Laid BY PROGRAM, IN A SANDBOX (cutbox-door.mjs). By AI agents, Wed Nov 11 2026. No macro, syntax, notation, axiom, sorry.
-/
import Derived.Test.YtbimlalhodibjaaGreatDoorRows
import GoSem.ClaimSeven
namespace Go.Proofs.YtbimlalhodibjaaGreatDoor
namespace Rows

/-- THE TIED CARD OF 'gatehouselaw.HookPlays'. -/
def hookPlaysCard : Claim7 := { stood := { row := hookPlaysRow, standIns := [], harness := (true, "bbe9f074e415fa2ce77e7f6fec5c7adb2ec1d9c6bbd90b3be91f1ca835574faa"), looks := true }, kinds := [], alts := [], laidByText := true, laidKinds := [.handle, .data], laidTests := true, laidLooks := .later }
def HookPlaysCardSaid : Prop := Claim7.holds Tryz.pinned (.plain (OpenSpec.ofChange hookPlaysSpec)) hookPlaysCard

/-- THE TIED CARD OF 'gatehousekeep.HookFair'. -/
def hookFairCard : Claim7 := { stood := { row := hookFairRow, standIns := [], harness := (true, "bbe9f074e415fa2ce77e7f6fec5c7adb2ec1d9c6bbd90b3be91f1ca835574faa"), looks := true }, kinds := [], alts := [], laidByText := true, laidKinds := [.data, .data, .data, .data, .sentinel, .sentinel, .data, .data, .pinned], laidTests := true, laidLooks := .later }
def HookFairCardSaid : Prop := Claim7.holds Tryz.pinned (.plain (OpenSpec.ofChange hookFairSpec)) hookFairCard

/-- THE TIED CARD OF 'gatehousekeep.HookApart'. -/
def hookApartCard : Claim7 := { stood := { row := hookApartRow, standIns := [], harness := (true, "bbe9f074e415fa2ce77e7f6fec5c7adb2ec1d9c6bbd90b3be91f1ca835574faa"), looks := true }, kinds := [], alts := [], laidByText := true, laidKinds := [.data, .data, .data, .data, .sentinel, .sentinel, .data, .data, .pinned], laidTests := true, laidLooks := .later }
def HookApartCardSaid : Prop := Claim7.holds Tryz.pinned (.plain (OpenSpec.ofChange hookApartSpec)) hookApartCard

/-- THE SECOND FORM's CARD OF 'gatehouselaw.HookPlays'. -/
def hookPlaysUptoCard : Claim7 := { stood := { row := hookPlaysUptoRow, standIns := [], harness := (true, "bbe9f074e415fa2ce77e7f6fec5c7adb2ec1d9c6bbd90b3be91f1ca835574faa"), looks := true }, kinds := [], alts := [], laidByText := true, laidKinds := [.handle, .data], laidTests := true, laidLooks := .later }
def HookPlaysUptoCardSaid : Prop := Claim7.holds Tryz.pinned (.plain (OpenSpec.upto hookPlaysSpec)) hookPlaysUptoCard

/-- THE SECOND FORM's CARD OF 'gatehousekeep.HookFair'. -/
def hookFairUptoCard : Claim7 := { stood := { row := hookFairUptoRow, standIns := [], harness := (true, "bbe9f074e415fa2ce77e7f6fec5c7adb2ec1d9c6bbd90b3be91f1ca835574faa"), looks := true }, kinds := [], alts := [], laidByText := true, laidKinds := [.data, .data, .data, .data, .sentinel, .sentinel, .data, .data, .pinned], laidTests := true, laidLooks := .later }
def HookFairUptoCardSaid : Prop := Claim7.holds Tryz.pinned (.plain (OpenSpec.upto hookFairSpec)) hookFairUptoCard

/-- THE SECOND FORM's CARD OF 'gatehousekeep.HookApart'. -/
def hookApartUptoCard : Claim7 := { stood := { row := hookApartUptoRow, standIns := [], harness := (true, "bbe9f074e415fa2ce77e7f6fec5c7adb2ec1d9c6bbd90b3be91f1ca835574faa"), looks := true }, kinds := [], alts := [], laidByText := true, laidKinds := [.data, .data, .data, .data, .sentinel, .sentinel, .data, .data, .pinned], laidTests := true, laidLooks := .later }
def HookApartUptoCardSaid : Prop := Claim7.holds Tryz.pinned (.plain (OpenSpec.upto hookApartSpec)) hookApartUptoCard
end Rows
end Go.Proofs.YtbimlalhodibjaaGreatDoor
