/-
  DERIVED. GIVEN WITH THE SEED: THE CARDS: each row of YtlbndkfllegacaaGreatDoorRows.lean that lists a variable, with what it lists TIED to the program's text (the seventh form; the later family's looks); each row that meets fmt, with fmt's text TOLD by the authors' own Lean function (tested against real Go, not proved from fmt's source: count such statements apart). THE CARD IS WHAT COUNTS. Prove the row's statement (the work); the ties are given (YtlbndkfllegacaaGreatDoorTie.lean); close each card by the builder's one call (the guide's Derived/Test/ToyasCard.lean, 'card_holds'). Laid BY PROGRAM, IN A SANDBOX (cutbox-door.mjs). By AI agents, Wed Nov 11 2026. No macro, syntax, notation, axiom, sorry.
-/
import Derived.Test.YtlbndkfllegacaaGreatDoorRows
import GoSem.ClaimSeven
namespace Go.Proofs.YtlbndkfllegacaaGreatDoor
namespace Rows

/-- THE TIED CARD OF 'pawllaw10.EnvelopeReads'. -/
def envelopeReadsCard : Claim7 := { stood := { row := envelopeReadsRow, standIns := [], harness := (true, "127d5bff8c204c358d32cddb2618eaa5e5e2c7146b228b4eda4a253e02735ed3"), looks := true }, kinds := [], alts := [], laidByText := true, laidKinds := [.data, .handle, .pinned], laidTests := true, laidLooks := .later }
def EnvelopeReadsCardSaid : Prop := Claim7.holds Tryz.pinned (.plain (OpenSpec.ofChange envelopeReadsSpec)) envelopeReadsCard

/-- THE TIED CARD OF 'pawllaw14.AgreeParses'. -/
def agreeParsesCard : Claim7 := { stood := { row := agreeParsesRow, standIns := [], harness := (true, "127d5bff8c204c358d32cddb2618eaa5e5e2c7146b228b4eda4a253e02735ed3"), looks := true }, kinds := [], alts := [], laidByText := true, laidKinds := [.data, .handle, .pinned], laidTests := true, laidLooks := .later }
def AgreeParsesCardSaid : Prop := Claim7.holds Tryz.pinned (.plain (OpenSpec.ofChange agreeParsesSpec)) agreeParsesCard

/-- THE TIED CARD OF 'pawllaw10.EnvelopePacks'. -/
def envelopePacksCard : Claim7 := { stood := { row := envelopePacksRow, standIns := [], harness := (true, "127d5bff8c204c358d32cddb2618eaa5e5e2c7146b228b4eda4a253e02735ed3"), looks := true }, kinds := [], alts := [], laidByText := true, laidKinds := [.data, .handle, .pinned], laidTests := true, laidLooks := .later }
def EnvelopePacksCardSaid : Prop := Claim7.holds Tryz.pinned (.plain (OpenSpec.ofChange envelopePacksSpec)) envelopePacksCard

/-- THE TIED CARD OF 'pawllaw10.EnvelopeParses'. -/
def envelopeParsesCard : Claim7 := { stood := { row := envelopeParsesRow, standIns := [], harness := (true, "127d5bff8c204c358d32cddb2618eaa5e5e2c7146b228b4eda4a253e02735ed3"), looks := true }, kinds := [], alts := [], laidByText := true, laidKinds := [.data, .handle, .pinned], laidTests := true, laidLooks := .later }
def EnvelopeParsesCardSaid : Prop := Claim7.holds Tryz.pinned (.plain (OpenSpec.ofChange envelopeParsesSpec)) envelopeParsesCard

/-- THE TIED CARD OF 'pawllaw10.EnvelopeThere'. -/
def envelopeThereCard : Claim7 := { stood := { row := envelopeThereRow, standIns := [], harness := (true, "127d5bff8c204c358d32cddb2618eaa5e5e2c7146b228b4eda4a253e02735ed3"), looks := true }, kinds := [], alts := [], laidByText := true, laidKinds := [.data, .handle, .pinned], laidTests := true, laidLooks := .later }
def EnvelopeThereCardSaid : Prop := Claim7.holds Tryz.pinned (.plain (OpenSpec.ofChange envelopeThereSpec)) envelopeThereCard

/-- THE TIED CARD OF 'pawllaw10.EnvelopeBack'. -/
def envelopeBackCard : Claim7 := { stood := { row := envelopeBackRow, standIns := [], harness := (true, "127d5bff8c204c358d32cddb2618eaa5e5e2c7146b228b4eda4a253e02735ed3"), looks := true }, kinds := [], alts := [], laidByText := true, laidKinds := [.data, .handle, .pinned], laidTests := true, laidLooks := .later }
def EnvelopeBackCardSaid : Prop := Claim7.holds Tryz.pinned (.plain (OpenSpec.ofChange envelopeBackSpec)) envelopeBackCard

/-- THE SECOND FORM's CARD OF 'pawllaw10.EnvelopeReads'. -/
def envelopeReadsUptoCard : Claim7 := { stood := { row := envelopeReadsUptoRow, standIns := [], harness := (true, "127d5bff8c204c358d32cddb2618eaa5e5e2c7146b228b4eda4a253e02735ed3"), looks := true }, kinds := [], alts := [], laidByText := true, laidKinds := [.data, .handle, .pinned], laidTests := true, laidLooks := .later }
def EnvelopeReadsUptoCardSaid : Prop := Claim7.holds Tryz.pinned (.plain (OpenSpec.upto envelopeReadsSpec)) envelopeReadsUptoCard

/-- THE SECOND FORM's CARD OF 'pawllaw14.AgreeParses'. -/
def agreeParsesUptoCard : Claim7 := { stood := { row := agreeParsesUptoRow, standIns := [], harness := (true, "127d5bff8c204c358d32cddb2618eaa5e5e2c7146b228b4eda4a253e02735ed3"), looks := true }, kinds := [], alts := [], laidByText := true, laidKinds := [.data, .handle, .pinned], laidTests := true, laidLooks := .later }
def AgreeParsesUptoCardSaid : Prop := Claim7.holds Tryz.pinned (.plain (OpenSpec.upto agreeParsesSpec)) agreeParsesUptoCard

/-- THE SECOND FORM's CARD OF 'pawllaw10.EnvelopePacks'. -/
def envelopePacksUptoCard : Claim7 := { stood := { row := envelopePacksUptoRow, standIns := [], harness := (true, "127d5bff8c204c358d32cddb2618eaa5e5e2c7146b228b4eda4a253e02735ed3"), looks := true }, kinds := [], alts := [], laidByText := true, laidKinds := [.data, .handle, .pinned], laidTests := true, laidLooks := .later }
def EnvelopePacksUptoCardSaid : Prop := Claim7.holds Tryz.pinned (.plain (OpenSpec.upto envelopePacksSpec)) envelopePacksUptoCard

/-- THE SECOND FORM's CARD OF 'pawllaw10.EnvelopeParses'. -/
def envelopeParsesUptoCard : Claim7 := { stood := { row := envelopeParsesUptoRow, standIns := [], harness := (true, "127d5bff8c204c358d32cddb2618eaa5e5e2c7146b228b4eda4a253e02735ed3"), looks := true }, kinds := [], alts := [], laidByText := true, laidKinds := [.data, .handle, .pinned], laidTests := true, laidLooks := .later }
def EnvelopeParsesUptoCardSaid : Prop := Claim7.holds Tryz.pinned (.plain (OpenSpec.upto envelopeParsesSpec)) envelopeParsesUptoCard

/-- THE SECOND FORM's CARD OF 'pawllaw10.EnvelopeThere'. -/
def envelopeThereUptoCard : Claim7 := { stood := { row := envelopeThereUptoRow, standIns := [], harness := (true, "127d5bff8c204c358d32cddb2618eaa5e5e2c7146b228b4eda4a253e02735ed3"), looks := true }, kinds := [], alts := [], laidByText := true, laidKinds := [.data, .handle, .pinned], laidTests := true, laidLooks := .later }
def EnvelopeThereUptoCardSaid : Prop := Claim7.holds Tryz.pinned (.plain (OpenSpec.upto envelopeThereSpec)) envelopeThereUptoCard

/-- THE SECOND FORM's CARD OF 'pawllaw10.EnvelopeBack'. -/
def envelopeBackUptoCard : Claim7 := { stood := { row := envelopeBackUptoRow, standIns := [], harness := (true, "127d5bff8c204c358d32cddb2618eaa5e5e2c7146b228b4eda4a253e02735ed3"), looks := true }, kinds := [], alts := [], laidByText := true, laidKinds := [.data, .handle, .pinned], laidTests := true, laidLooks := .later }
def EnvelopeBackUptoCardSaid : Prop := Claim7.holds Tryz.pinned (.plain (OpenSpec.upto envelopeBackSpec)) envelopeBackUptoCard
end Rows
end Go.Proofs.YtlbndkfllegacaaGreatDoor
