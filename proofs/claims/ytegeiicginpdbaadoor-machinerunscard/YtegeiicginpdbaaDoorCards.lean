/-
  DERIVED. GIVEN WITH THE SEED: THE CARDS: each row of YtegeiicginpdbaaDoorRows.lean that lists a variable, with what it lists TIED to the program's text (the seventh form; the later family's looks); each row that meets fmt, with fmt's text TOLD by the authors' own Lean function (tested against real Go, not proved from fmt's source: count such statements apart). THE CARD IS WHAT COUNTS. Prove the row's statement (the work); the ties are given (YtegeiicginpdbaaDoorTie.lean); close each card by the builder's one call (the guide's Derived/Test/ToyasCard.lean, 'card_holds'). Laid BY PROGRAM, IN A SANDBOX (cutbox-door.mjs). By AI agents, Wed Nov 11 2026. No macro, syntax, notation, axiom, sorry.
-/
import Derived.Test.YtegeiicginpdbaaDoorRows
import GoSem.ClaimSeven
namespace Go.Proofs.YtegeiicginpdbaaDoor
namespace Rows

/-- THE TIED CARD OF 'gatehouselaw.OpChecks'. -/
def opChecksCard : Claim7 := { stood := { row := opChecksRow, standIns := [], harness := (true, "0ced78d4d5f09497d432c9c472b8d6ed004745846640b37fcc33040aa05f472e"), looks := true }, kinds := [], alts := [], laidByText := true, laidKinds := [.handle], laidTests := true, laidLooks := .later }
def OpChecksCardSaid : Prop := Claim7.holds Tryd.pinned (.plain (OpenSpec.ofChange opChecksSpec)) opChecksCard

/-- THE TIED CARD OF 'gatehouselaw.AsmWrites'. -/
def asmWritesCard : Claim7 := { stood := { row := asmWritesRow, standIns := [], harness := (true, "0ced78d4d5f09497d432c9c472b8d6ed004745846640b37fcc33040aa05f472e"), looks := true }, kinds := [], alts := [], laidByText := true, laidKinds := [.data, .data, .data, .handle, .data, .data, .data, .data], laidTests := true, laidLooks := .later }
def AsmWritesCardSaid : Prop := Claim7.holds Tryd.pinned (.plain (OpenSpec.ofChange asmWritesSpec)) asmWritesCard

/-- THE TIED CARD OF 'gatehouselaw.BoundCounts'. -/
def boundCountsCard : Claim7 := { stood := { row := boundCountsRow, standIns := [], harness := (true, "0ced78d4d5f09497d432c9c472b8d6ed004745846640b37fcc33040aa05f472e"), looks := true }, kinds := [], alts := [], laidByText := true, laidKinds := [.data], laidTests := true, laidLooks := .later }
def BoundCountsCardSaid : Prop := Claim7.holds Tryd.pinned (.plain (OpenSpec.ofChange boundCountsSpec)) boundCountsCard

/-- THE TIED CARD OF 'gatehouselaw.MachineRuns'. -/
def machineRunsCard : Claim7 := { stood := { row := machineRunsRow, standIns := [], harness := (true, "0ced78d4d5f09497d432c9c472b8d6ed004745846640b37fcc33040aa05f472e"), looks := true }, kinds := [], alts := [], laidByText := true, laidKinds := [.handle], laidTests := true, laidLooks := .later }
def MachineRunsCardSaid : Prop := Claim7.holds Tryd.pinned (.plain (OpenSpec.ofChange machineRunsSpec)) machineRunsCard

/-- THE SECOND FORM's CARD OF 'gatehouselaw.OpChecks'. -/
def opChecksUptoCard : Claim7 := { stood := { row := opChecksUptoRow, standIns := [], harness := (true, "0ced78d4d5f09497d432c9c472b8d6ed004745846640b37fcc33040aa05f472e"), looks := true }, kinds := [], alts := [], laidByText := true, laidKinds := [.handle], laidTests := true, laidLooks := .later }
def OpChecksUptoCardSaid : Prop := Claim7.holds Tryd.pinned (.plain (OpenSpec.upto opChecksSpec)) opChecksUptoCard

/-- THE SECOND FORM's CARD OF 'gatehouselaw.AsmWrites'. -/
def asmWritesUptoCard : Claim7 := { stood := { row := asmWritesUptoRow, standIns := [], harness := (true, "0ced78d4d5f09497d432c9c472b8d6ed004745846640b37fcc33040aa05f472e"), looks := true }, kinds := [], alts := [], laidByText := true, laidKinds := [.data, .data, .data, .handle, .data, .data, .data, .data], laidTests := true, laidLooks := .later }
def AsmWritesUptoCardSaid : Prop := Claim7.holds Tryd.pinned (.plain (OpenSpec.upto asmWritesSpec)) asmWritesUptoCard

/-- THE SECOND FORM's CARD OF 'gatehouselaw.BoundCounts'. -/
def boundCountsUptoCard : Claim7 := { stood := { row := boundCountsUptoRow, standIns := [], harness := (true, "0ced78d4d5f09497d432c9c472b8d6ed004745846640b37fcc33040aa05f472e"), looks := true }, kinds := [], alts := [], laidByText := true, laidKinds := [.data], laidTests := true, laidLooks := .later }
def BoundCountsUptoCardSaid : Prop := Claim7.holds Tryd.pinned (.plain (OpenSpec.upto boundCountsSpec)) boundCountsUptoCard

/-- THE SECOND FORM's CARD OF 'gatehouselaw.MachineRuns'. -/
def machineRunsUptoCard : Claim7 := { stood := { row := machineRunsUptoRow, standIns := [], harness := (true, "0ced78d4d5f09497d432c9c472b8d6ed004745846640b37fcc33040aa05f472e"), looks := true }, kinds := [], alts := [], laidByText := true, laidKinds := [.handle], laidTests := true, laidLooks := .later }
def MachineRunsUptoCardSaid : Prop := Claim7.holds Tryd.pinned (.plain (OpenSpec.upto machineRunsSpec)) machineRunsUptoCard
end Rows
end Go.Proofs.YtegeiicginpdbaaDoor
