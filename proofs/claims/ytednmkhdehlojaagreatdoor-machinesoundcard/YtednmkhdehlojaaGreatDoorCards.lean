/-
  DERIVED. GIVEN WITH THE SEED: THE CARDS: each row of YtednmkhdehlojaaGreatDoorRows.lean that lists a variable, with what it lists TIED to the program's text (the seventh form; the later family's looks); each row that meets fmt, with fmt's text TOLD by the authors' own Lean function (tested against real Go, not proved from fmt's source: count such statements apart). THE CARD IS WHAT COUNTS. Prove the row's statement (the work); the ties are given (YtednmkhdehlojaaGreatDoorTie.lean); close each card by the builder's one call (the guide's Derived/Test/ToyasCard.lean, 'card_holds'). Laid BY PROGRAM, IN A SANDBOX (cutbox-door.mjs). By AI agents, Wed Nov 11 2026. No macro, syntax, notation, axiom, sorry.
-/
import Derived.Test.YtednmkhdehlojaaGreatDoorRows
import GoSem.ClaimSeven
namespace Go.Proofs.YtednmkhdehlojaaGreatDoor
namespace Rows

/-- THE TIED CARD OF 'gatehouselaw.AsmReads'. -/
def asmReadsCard : Claim7 := { stood := { row := asmReadsRow, standIns := [], harness := (true, "cf7aa85370429895cd323c9a7328774f30c018a4d3b6e5dfe41c2a8ce8c2ecc7"), looks := true }, kinds := [], alts := [], laidByText := true, laidKinds := [.data, .data, .data, .data, .handle, .sentinel, .sentinel, .data, .data, .data, .data, .pinned], laidTests := true, laidLooks := .later }
def AsmReadsCardSaid : Prop := Claim7.holds Tryz.pinned (.plain (OpenSpec.ofChange asmReadsSpec)) asmReadsCard

/-- THE TIED CARD OF 'gatehousekeep.AsmBack'. -/
def asmBackCard : Claim7 := { stood := { row := asmBackRow, standIns := [], harness := (true, "cf7aa85370429895cd323c9a7328774f30c018a4d3b6e5dfe41c2a8ce8c2ecc7"), looks := true }, kinds := [], alts := [], laidByText := true, laidKinds := [.data, .data, .data, .data, .sentinel, .sentinel, .data, .data, .pinned], laidTests := true, laidLooks := .later }
def AsmBackCardSaid : Prop := Claim7.holds Tryz.pinned (.plain (OpenSpec.ofChange asmBackSpec)) asmBackCard

/-- THE TIED CARD OF 'gatehouselaw.VerifyGoes'. -/
def verifyGoesCard : Claim7 := { stood := { row := verifyGoesRow, standIns := [], harness := (true, "cf7aa85370429895cd323c9a7328774f30c018a4d3b6e5dfe41c2a8ce8c2ecc7"), looks := true }, kinds := [], alts := [], laidByText := true, laidKinds := [.handle, .data], laidTests := true, laidLooks := .later }
def VerifyGoesCardSaid : Prop := Claim7.holds Tryz.pinned (.plain (OpenSpec.ofChange verifyGoesSpec)) verifyGoesCard

/-- THE TIED CARD OF 'gatehousekeep.VerifyDead'. -/
def verifyDeadCard : Claim7 := { stood := { row := verifyDeadRow, standIns := [], harness := (true, "cf7aa85370429895cd323c9a7328774f30c018a4d3b6e5dfe41c2a8ce8c2ecc7"), looks := true }, kinds := [], alts := [], laidByText := true, laidKinds := [.data, .data, .data, .data, .handle, .sentinel, .sentinel, .data, .data, .pinned], laidTests := true, laidLooks := .later }
def VerifyDeadCardSaid : Prop := Claim7.holds Tryz.pinned (.plain (OpenSpec.ofChange verifyDeadSpec)) verifyDeadCard

/-- THE TIED CARD OF 'gatehousekeep.MachineSound'. -/
def machineSoundCard : Claim7 := { stood := { row := machineSoundRow, standIns := [], harness := (true, "cf7aa85370429895cd323c9a7328774f30c018a4d3b6e5dfe41c2a8ce8c2ecc7"), looks := true }, kinds := [], alts := [], laidByText := true, laidKinds := [.data, .data, .data, .data, .handle, .sentinel, .sentinel, .data, .data, .pinned], laidTests := true, laidLooks := .later }
def MachineSoundCardSaid : Prop := Claim7.holds Tryz.pinned (.plain (OpenSpec.ofChange machineSoundSpec)) machineSoundCard

/-- THE SECOND FORM's CARD OF 'gatehouselaw.AsmReads'. -/
def asmReadsUptoCard : Claim7 := { stood := { row := asmReadsUptoRow, standIns := [], harness := (true, "cf7aa85370429895cd323c9a7328774f30c018a4d3b6e5dfe41c2a8ce8c2ecc7"), looks := true }, kinds := [], alts := [], laidByText := true, laidKinds := [.data, .data, .data, .data, .handle, .sentinel, .sentinel, .data, .data, .data, .data, .pinned], laidTests := true, laidLooks := .later }
def AsmReadsUptoCardSaid : Prop := Claim7.holds Tryz.pinned (.plain (OpenSpec.upto asmReadsSpec)) asmReadsUptoCard

/-- THE SECOND FORM's CARD OF 'gatehousekeep.AsmBack'. -/
def asmBackUptoCard : Claim7 := { stood := { row := asmBackUptoRow, standIns := [], harness := (true, "cf7aa85370429895cd323c9a7328774f30c018a4d3b6e5dfe41c2a8ce8c2ecc7"), looks := true }, kinds := [], alts := [], laidByText := true, laidKinds := [.data, .data, .data, .data, .sentinel, .sentinel, .data, .data, .pinned], laidTests := true, laidLooks := .later }
def AsmBackUptoCardSaid : Prop := Claim7.holds Tryz.pinned (.plain (OpenSpec.upto asmBackSpec)) asmBackUptoCard

/-- THE SECOND FORM's CARD OF 'gatehouselaw.VerifyGoes'. -/
def verifyGoesUptoCard : Claim7 := { stood := { row := verifyGoesUptoRow, standIns := [], harness := (true, "cf7aa85370429895cd323c9a7328774f30c018a4d3b6e5dfe41c2a8ce8c2ecc7"), looks := true }, kinds := [], alts := [], laidByText := true, laidKinds := [.handle, .data], laidTests := true, laidLooks := .later }
def VerifyGoesUptoCardSaid : Prop := Claim7.holds Tryz.pinned (.plain (OpenSpec.upto verifyGoesSpec)) verifyGoesUptoCard

/-- THE SECOND FORM's CARD OF 'gatehousekeep.VerifyDead'. -/
def verifyDeadUptoCard : Claim7 := { stood := { row := verifyDeadUptoRow, standIns := [], harness := (true, "cf7aa85370429895cd323c9a7328774f30c018a4d3b6e5dfe41c2a8ce8c2ecc7"), looks := true }, kinds := [], alts := [], laidByText := true, laidKinds := [.data, .data, .data, .data, .handle, .sentinel, .sentinel, .data, .data, .pinned], laidTests := true, laidLooks := .later }
def VerifyDeadUptoCardSaid : Prop := Claim7.holds Tryz.pinned (.plain (OpenSpec.upto verifyDeadSpec)) verifyDeadUptoCard

/-- THE SECOND FORM's CARD OF 'gatehousekeep.MachineSound'. -/
def machineSoundUptoCard : Claim7 := { stood := { row := machineSoundUptoRow, standIns := [], harness := (true, "cf7aa85370429895cd323c9a7328774f30c018a4d3b6e5dfe41c2a8ce8c2ecc7"), looks := true }, kinds := [], alts := [], laidByText := true, laidKinds := [.data, .data, .data, .data, .handle, .sentinel, .sentinel, .data, .data, .pinned], laidTests := true, laidLooks := .later }
def MachineSoundUptoCardSaid : Prop := Claim7.holds Tryz.pinned (.plain (OpenSpec.upto machineSoundSpec)) machineSoundUptoCard
end Rows
end Go.Proofs.YtednmkhdehlojaaGreatDoor
