/-
  DERIVED. GIVEN WITH THE SEED: THE CARDS: each row of YtjoohgkgkabbpaaGreatDoorRows.lean that lists a variable, with what it lists TIED to the program's text (the seventh form; the later family's looks); each row that meets fmt, with fmt's text TOLD by the authors' own Lean function (tested against real Go, not proved from fmt's source: count such statements apart). THE CARD IS WHAT COUNTS. Prove the row's statement (the work); the ties are given (YtjoohgkgkabbpaaGreatDoorTie.lean); close each card by the builder's one call (the guide's Derived/Test/ToyasCard.lean, 'card_holds'). Laid BY PROGRAM, IN A SANDBOX (cutbox-door.mjs). By AI agents, Wed Nov 11 2026. No macro, syntax, notation, axiom, sorry.
-/
import Derived.Test.YtjoohgkgkabbpaaGreatDoorRows
import GoSem.ClaimSeven
namespace Go.Proofs.YtjoohgkgkabbpaaGreatDoor
namespace Rows

/-- THE TIED CARD OF 'pawllaw10.EnvelopeReads'. -/
def envelopeReadsCard : Claim7 := { stood := { row := envelopeReadsRow, standIns := [], harness := (true, "fe1392694d7f62467b3dbc2e7c7137f9a2123a502596babb57e6e4d8a785a7c8"), looks := true }, kinds := [], alts := [], laidByText := true, laidKinds := [.data, .handle, .pinned], laidTests := true, laidLooks := .later }
def EnvelopeReadsCardSaid : Prop := Claim7.holds Tryz.pinned (.plain (OpenSpec.ofChange envelopeReadsSpec)) envelopeReadsCard

/-- THE TIED CARD OF 'pawllaw14.AgreeParses'. -/
def agreeParsesCard : Claim7 := { stood := { row := agreeParsesRow, standIns := [], harness := (true, "fe1392694d7f62467b3dbc2e7c7137f9a2123a502596babb57e6e4d8a785a7c8"), looks := true }, kinds := [], alts := [], laidByText := true, laidKinds := [.data, .handle, .pinned], laidTests := true, laidLooks := .later }
def AgreeParsesCardSaid : Prop := Claim7.holds Tryz.pinned (.plain (OpenSpec.ofChange agreeParsesSpec)) agreeParsesCard

/-- THE TIED CARD OF 'pawllaw10.EnvelopePacks'. -/
def envelopePacksCard : Claim7 := { stood := { row := envelopePacksRow, standIns := [], harness := (true, "fe1392694d7f62467b3dbc2e7c7137f9a2123a502596babb57e6e4d8a785a7c8"), looks := true }, kinds := [], alts := [], laidByText := true, laidKinds := [.data, .handle, .pinned], laidTests := true, laidLooks := .later }
def EnvelopePacksCardSaid : Prop := Claim7.holds Tryz.pinned (.plain (OpenSpec.ofChange envelopePacksSpec)) envelopePacksCard

/-- THE TIED CARD OF 'pawllaw10.EnvelopeParses'. -/
def envelopeParsesCard : Claim7 := { stood := { row := envelopeParsesRow, standIns := [], harness := (true, "fe1392694d7f62467b3dbc2e7c7137f9a2123a502596babb57e6e4d8a785a7c8"), looks := true }, kinds := [], alts := [], laidByText := true, laidKinds := [.data, .handle, .pinned], laidTests := true, laidLooks := .later }
def EnvelopeParsesCardSaid : Prop := Claim7.holds Tryz.pinned (.plain (OpenSpec.ofChange envelopeParsesSpec)) envelopeParsesCard

/-- THE TIED CARD OF 'pawllaw10.EnvelopeVersions'. -/
def envelopeVersionsCard : Claim7 := { stood := { row := envelopeVersionsRow, standIns := [], harness := (true, "fe1392694d7f62467b3dbc2e7c7137f9a2123a502596babb57e6e4d8a785a7c8"), looks := true }, kinds := [], alts := [], laidByText := true, laidKinds := [.data, .handle, .pinned], laidTests := true, laidLooks := .later }
def EnvelopeVersionsCardSaid : Prop := Claim7.holds Tryz.pinned (.plain (OpenSpec.ofChange envelopeVersionsSpec)) envelopeVersionsCard

/-- THE TIED CARD OF 'pawllaw10.EnvelopeBack'. -/
def envelopeBackCard : Claim7 := { stood := { row := envelopeBackRow, standIns := [], harness := (true, "fe1392694d7f62467b3dbc2e7c7137f9a2123a502596babb57e6e4d8a785a7c8"), looks := true }, kinds := [], alts := [], laidByText := true, laidKinds := [.data, .handle, .pinned], laidTests := true, laidLooks := .later }
def EnvelopeBackCardSaid : Prop := Claim7.holds Tryz.pinned (.plain (OpenSpec.ofChange envelopeBackSpec)) envelopeBackCard

/-- THE SECOND FORM's CARD OF 'pawllaw10.EnvelopeReads'. -/
def envelopeReadsUptoCard : Claim7 := { stood := { row := envelopeReadsUptoRow, standIns := [], harness := (true, "fe1392694d7f62467b3dbc2e7c7137f9a2123a502596babb57e6e4d8a785a7c8"), looks := true }, kinds := [], alts := [], laidByText := true, laidKinds := [.data, .handle, .pinned], laidTests := true, laidLooks := .later }
def EnvelopeReadsUptoCardSaid : Prop := Claim7.holds Tryz.pinned (.plain (OpenSpec.upto envelopeReadsSpec)) envelopeReadsUptoCard

/-- THE SECOND FORM's CARD OF 'pawllaw14.AgreeParses'. -/
def agreeParsesUptoCard : Claim7 := { stood := { row := agreeParsesUptoRow, standIns := [], harness := (true, "fe1392694d7f62467b3dbc2e7c7137f9a2123a502596babb57e6e4d8a785a7c8"), looks := true }, kinds := [], alts := [], laidByText := true, laidKinds := [.data, .handle, .pinned], laidTests := true, laidLooks := .later }
def AgreeParsesUptoCardSaid : Prop := Claim7.holds Tryz.pinned (.plain (OpenSpec.upto agreeParsesSpec)) agreeParsesUptoCard

/-- THE SECOND FORM's CARD OF 'pawllaw10.EnvelopePacks'. -/
def envelopePacksUptoCard : Claim7 := { stood := { row := envelopePacksUptoRow, standIns := [], harness := (true, "fe1392694d7f62467b3dbc2e7c7137f9a2123a502596babb57e6e4d8a785a7c8"), looks := true }, kinds := [], alts := [], laidByText := true, laidKinds := [.data, .handle, .pinned], laidTests := true, laidLooks := .later }
def EnvelopePacksUptoCardSaid : Prop := Claim7.holds Tryz.pinned (.plain (OpenSpec.upto envelopePacksSpec)) envelopePacksUptoCard

/-- THE SECOND FORM's CARD OF 'pawllaw10.EnvelopeParses'. -/
def envelopeParsesUptoCard : Claim7 := { stood := { row := envelopeParsesUptoRow, standIns := [], harness := (true, "fe1392694d7f62467b3dbc2e7c7137f9a2123a502596babb57e6e4d8a785a7c8"), looks := true }, kinds := [], alts := [], laidByText := true, laidKinds := [.data, .handle, .pinned], laidTests := true, laidLooks := .later }
def EnvelopeParsesUptoCardSaid : Prop := Claim7.holds Tryz.pinned (.plain (OpenSpec.upto envelopeParsesSpec)) envelopeParsesUptoCard

/-- THE SECOND FORM's CARD OF 'pawllaw10.EnvelopeVersions'. -/
def envelopeVersionsUptoCard : Claim7 := { stood := { row := envelopeVersionsUptoRow, standIns := [], harness := (true, "fe1392694d7f62467b3dbc2e7c7137f9a2123a502596babb57e6e4d8a785a7c8"), looks := true }, kinds := [], alts := [], laidByText := true, laidKinds := [.data, .handle, .pinned], laidTests := true, laidLooks := .later }
def EnvelopeVersionsUptoCardSaid : Prop := Claim7.holds Tryz.pinned (.plain (OpenSpec.upto envelopeVersionsSpec)) envelopeVersionsUptoCard

/-- THE SECOND FORM's CARD OF 'pawllaw10.EnvelopeBack'. -/
def envelopeBackUptoCard : Claim7 := { stood := { row := envelopeBackUptoRow, standIns := [], harness := (true, "fe1392694d7f62467b3dbc2e7c7137f9a2123a502596babb57e6e4d8a785a7c8"), looks := true }, kinds := [], alts := [], laidByText := true, laidKinds := [.data, .handle, .pinned], laidTests := true, laidLooks := .later }
def EnvelopeBackUptoCardSaid : Prop := Claim7.holds Tryz.pinned (.plain (OpenSpec.upto envelopeBackSpec)) envelopeBackUptoCard
end Rows
end Go.Proofs.YtjoohgkgkabbpaaGreatDoor
