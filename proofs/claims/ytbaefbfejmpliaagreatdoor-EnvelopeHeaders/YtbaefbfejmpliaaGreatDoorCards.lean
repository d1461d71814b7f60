/-
  DERIVED. GIVEN WITH THE SEED: THE CARDS: each row of YtbaefbfejmpliaaGreatDoorRows.lean that lists a variable, with what it lists TIED to the program's text (the seventh form; the later family's looks); each row that meets fmt, with fmt's text TOLD by the authors' own Lean function (tested against real Go, not proved from fmt's source: count such statements apart). THE CARD IS WHAT COUNTS. Prove the row's statement (the work); the ties are given (YtbaefbfejmpliaaGreatDoorTie.lean); close each card by the builder's one call (the guide's Derived/Test/ToyasCard.lean, 'card_holds'). Laid BY PROGRAM, IN A SANDBOX (cutbox-door.mjs). By AI agents, Wed Nov 11 2026. No macro, syntax, notation, axiom, sorry.
-/
import Derived.Test.YtbaefbfejmpliaaGreatDoorRows
import GoSem.ClaimSeven
namespace Go.Proofs.YtbaefbfejmpliaaGreatDoor
namespace Rows

/-- THE TIED CARD OF 'pawllaw10.EnvelopeHeaders'. -/
def envelopeHeadersCard : Claim7 := { stood := { row := envelopeHeadersRow, standIns := [], harness := (true, "fffaa20524bc6a18e96065b8d27ac8fe5295e6562149144b0b1113f22793caa0"), looks := true }, kinds := [], alts := [], laidByText := true, laidKinds := [.data, .pinned], laidTests := true, laidLooks := .later }
def EnvelopeHeadersCardSaid : Prop := Claim7.holds Tryz.pinned (.plain (OpenSpec.ofChange envelopeHeadersSpec)) envelopeHeadersCard

/-- THE TIED CARD OF 'pawllaw10.EnvelopeReads'. -/
def envelopeReadsCard : Claim7 := { stood := { row := envelopeReadsRow, standIns := [], harness := (true, "fffaa20524bc6a18e96065b8d27ac8fe5295e6562149144b0b1113f22793caa0"), looks := true }, kinds := [], alts := [], laidByText := true, laidKinds := [.data, .handle, .pinned], laidTests := true, laidLooks := .later }
def EnvelopeReadsCardSaid : Prop := Claim7.holds Tryz.pinned (.plain (OpenSpec.ofChange envelopeReadsSpec)) envelopeReadsCard

/-- THE TIED CARD OF 'pawllaw10.EnvelopeHeaded'. -/
def envelopeHeadedCard : Claim7 := { stood := { row := envelopeHeadedRow, standIns := [], harness := (true, "fffaa20524bc6a18e96065b8d27ac8fe5295e6562149144b0b1113f22793caa0"), looks := true }, kinds := [], alts := [], laidByText := true, laidKinds := [.data, .handle, .pinned], laidTests := true, laidLooks := .later }
def EnvelopeHeadedCardSaid : Prop := Claim7.holds Tryz.pinned (.plain (OpenSpec.ofChange envelopeHeadedSpec)) envelopeHeadedCard

/-- THE TIED CARD OF 'pawllaw10.EnvelopeHeadOnly'. -/
def envelopeHeadOnlyCard : Claim7 := { stood := { row := envelopeHeadOnlyRow, standIns := [], harness := (true, "fffaa20524bc6a18e96065b8d27ac8fe5295e6562149144b0b1113f22793caa0"), looks := true }, kinds := [], alts := [], laidByText := true, laidKinds := [.data, .handle, .pinned], laidTests := true, laidLooks := .later }
def EnvelopeHeadOnlyCardSaid : Prop := Claim7.holds Tryz.pinned (.plain (OpenSpec.ofChange envelopeHeadOnlySpec)) envelopeHeadOnlyCard

/-- THE TIED CARD OF 'pawllaw14.AgreePacks'. -/
def agreePacksCard : Claim7 := { stood := { row := agreePacksRow, standIns := [], harness := (true, "fffaa20524bc6a18e96065b8d27ac8fe5295e6562149144b0b1113f22793caa0"), looks := true }, kinds := [], alts := [], laidByText := true, laidKinds := [.data, .pinned], laidTests := true, laidLooks := .later }
def AgreePacksCardSaid : Prop := Claim7.holds Tryz.pinned (.plain (OpenSpec.ofChange agreePacksSpec)) agreePacksCard

/-- THE TIED CARD OF 'pawllaw14.AgreeParses'. -/
def agreeParsesCard : Claim7 := { stood := { row := agreeParsesRow, standIns := [], harness := (true, "fffaa20524bc6a18e96065b8d27ac8fe5295e6562149144b0b1113f22793caa0"), looks := true }, kinds := [], alts := [], laidByText := true, laidKinds := [.data, .handle, .pinned], laidTests := true, laidLooks := .later }
def AgreeParsesCardSaid : Prop := Claim7.holds Tryz.pinned (.plain (OpenSpec.ofChange agreeParsesSpec)) agreeParsesCard

/-- THE SECOND FORM's CARD OF 'pawllaw10.EnvelopeHeaders'. -/
def envelopeHeadersUptoCard : Claim7 := { stood := { row := envelopeHeadersUptoRow, standIns := [], harness := (true, "fffaa20524bc6a18e96065b8d27ac8fe5295e6562149144b0b1113f22793caa0"), looks := true }, kinds := [], alts := [], laidByText := true, laidKinds := [.data, .pinned], laidTests := true, laidLooks := .later }
def EnvelopeHeadersUptoCardSaid : Prop := Claim7.holds Tryz.pinned (.plain (OpenSpec.upto envelopeHeadersSpec)) envelopeHeadersUptoCard

/-- THE SECOND FORM's CARD OF 'pawllaw10.EnvelopeReads'. -/
def envelopeReadsUptoCard : Claim7 := { stood := { row := envelopeReadsUptoRow, standIns := [], harness := (true, "fffaa20524bc6a18e96065b8d27ac8fe5295e6562149144b0b1113f22793caa0"), looks := true }, kinds := [], alts := [], laidByText := true, laidKinds := [.data, .handle, .pinned], laidTests := true, laidLooks := .later }
def EnvelopeReadsUptoCardSaid : Prop := Claim7.holds Tryz.pinned (.plain (OpenSpec.upto envelopeReadsSpec)) envelopeReadsUptoCard

/-- THE SECOND FORM's CARD OF 'pawllaw10.EnvelopeHeaded'. -/
def envelopeHeadedUptoCard : Claim7 := { stood := { row := envelopeHeadedUptoRow, standIns := [], harness := (true, "fffaa20524bc6a18e96065b8d27ac8fe5295e6562149144b0b1113f22793caa0"), looks := true }, kinds := [], alts := [], laidByText := true, laidKinds := [.data, .handle, .pinned], laidTests := true, laidLooks := .later }
def EnvelopeHeadedUptoCardSaid : Prop := Claim7.holds Tryz.pinned (.plain (OpenSpec.upto envelopeHeadedSpec)) envelopeHeadedUptoCard

/-- THE SECOND FORM's CARD OF 'pawllaw10.EnvelopeHeadOnly'. -/
def envelopeHeadOnlyUptoCard : Claim7 := { stood := { row := envelopeHeadOnlyUptoRow, standIns := [], harness := (true, "fffaa20524bc6a18e96065b8d27ac8fe5295e6562149144b0b1113f22793caa0"), looks := true }, kinds := [], alts := [], laidByText := true, laidKinds := [.data, .handle, .pinned], laidTests := true, laidLooks := .later }
def EnvelopeHeadOnlyUptoCardSaid : Prop := Claim7.holds Tryz.pinned (.plain (OpenSpec.upto envelopeHeadOnlySpec)) envelopeHeadOnlyUptoCard

/-- THE SECOND FORM's CARD OF 'pawllaw14.AgreePacks'. -/
def agreePacksUptoCard : Claim7 := { stood := { row := agreePacksUptoRow, standIns := [], harness := (true, "fffaa20524bc6a18e96065b8d27ac8fe5295e6562149144b0b1113f22793caa0"), looks := true }, kinds := [], alts := [], laidByText := true, laidKinds := [.data, .pinned], laidTests := true, laidLooks := .later }
def AgreePacksUptoCardSaid : Prop := Claim7.holds Tryz.pinned (.plain (OpenSpec.upto agreePacksSpec)) agreePacksUptoCard

/-- THE SECOND FORM's CARD OF 'pawllaw14.AgreeParses'. -/
def agreeParsesUptoCard : Claim7 := { stood := { row := agreeParsesUptoRow, standIns := [], harness := (true, "fffaa20524bc6a18e96065b8d27ac8fe5295e6562149144b0b1113f22793caa0"), looks := true }, kinds := [], alts := [], laidByText := true, laidKinds := [.data, .handle, .pinned], laidTests := true, laidLooks := .later }
def AgreeParsesUptoCardSaid : Prop := Claim7.holds Tryz.pinned (.plain (OpenSpec.upto agreeParsesSpec)) agreeParsesUptoCard
end Rows
end Go.Proofs.YtbaefbfejmpliaaGreatDoor
