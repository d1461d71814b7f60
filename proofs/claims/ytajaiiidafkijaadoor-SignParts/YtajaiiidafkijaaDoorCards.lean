/-
  DERIVED. GIVEN WITH THE SEED: THE CARDS: each row of YtajaiiidafkijaaDoorRows.lean that lists a variable, with what it lists TIED to the program's text (the seventh form; the later family's looks); each row that meets fmt, with fmt's text TOLD by the authors' own Lean function (tested against real Go, not proved from fmt's source: count such statements apart). THE CARD IS WHAT COUNTS. Prove the row's statement (the work); the ties are given (YtajaiiidafkijaaDoorTie.lean); close each card by the builder's one call (the guide's Derived/Test/ToyasCard.lean, 'card_holds'). Laid BY PROGRAM, IN A SANDBOX (cutbox-door.mjs). By AI agents, Wed Nov 11 2026. No macro, syntax, notation, axiom, sorry.
-/
import Derived.Test.YtajaiiidafkijaaDoorRows
import GoSem.ClaimSeven
namespace Go.Proofs.YtajaiiidafkijaaDoor
namespace Rows

/-- THE TIED CARD OF 'pawllaw20.SignVectors'. -/
def signVectorsCard : Claim7 := { stood := { row := signVectorsRow, standIns := [], harness := (true, "eb232c8b42764f78584f5ad314436eef1da2da19688a5c185306b21ef781b0b5"), looks := false }, kinds := [], alts := [], laidByText := true, laidKinds := [.data, .data, .data, .data, .wider], laidTests := true, laidLooks := .later }
def SignVectorsCardSaid : Prop := Claim7.holds Tryd.pinned (.plain (OpenSpec.ofChange signVectorsSpec)) signVectorsCard

/-- THE TIED CARD OF 'pawllaw20.SignRight'. -/
def signRightCard : Claim7 := { stood := { row := signRightRow, standIns := [], harness := (true, "eb232c8b42764f78584f5ad314436eef1da2da19688a5c185306b21ef781b0b5"), looks := false }, kinds := [], alts := [], laidByText := true, laidKinds := [.data, .data, .data, .data, .wider], laidTests := true, laidLooks := .later }
def SignRightCardSaid : Prop := Claim7.holds Tryd.pinned (.plain (OpenSpec.ofChange signRightSpec)) signRightCard

/-- THE TIED CARD OF 'pawllaw20.SignOnce'. -/
def signOnceCard : Claim7 := { stood := { row := signOnceRow, standIns := [], harness := (true, "eb232c8b42764f78584f5ad314436eef1da2da19688a5c185306b21ef781b0b5"), looks := false }, kinds := [], alts := [], laidByText := true, laidKinds := [.data, .data, .data, .data, .wider], laidTests := true, laidLooks := .later }
def SignOnceCardSaid : Prop := Claim7.holds Tryd.pinned (.plain (OpenSpec.ofChange signOnceSpec)) signOnceCard

/-- THE TIED CARD OF 'pawllaw20.SignParts'. -/
def signPartsCard : Claim7 := { stood := { row := signPartsRow, standIns := [], harness := (true, "eb232c8b42764f78584f5ad314436eef1da2da19688a5c185306b21ef781b0b5"), looks := false }, kinds := [], alts := [], laidByText := true, laidKinds := [.data, .data, .data, .data, .wider], laidTests := true, laidLooks := .later }
def SignPartsCardSaid : Prop := Claim7.holds Tryd.pinned (.plain (OpenSpec.ofChange signPartsSpec)) signPartsCard

/-- THE TIED CARD OF 'pawllaw20.SignDresses'. -/
def signDressesCard : Claim7 := { stood := { row := signDressesRow, standIns := [], harness := (true, "eb232c8b42764f78584f5ad314436eef1da2da19688a5c185306b21ef781b0b5"), looks := false }, kinds := [], alts := [], laidByText := true, laidKinds := [.data, .data, .data, .data, .wider], laidTests := true, laidLooks := .later }
def SignDressesCardSaid : Prop := Claim7.holds Tryd.pinned (.plain (OpenSpec.ofChange signDressesSpec)) signDressesCard

/-- THE TIED CARD OF 'pawllaw20.SignSpoilt'. -/
def signSpoiltCard : Claim7 := { stood := { row := signSpoiltRow, standIns := [], harness := (true, "eb232c8b42764f78584f5ad314436eef1da2da19688a5c185306b21ef781b0b5"), looks := false }, kinds := [], alts := [], laidByText := true, laidKinds := [.data, .data, .data, .data, .wider], laidTests := true, laidLooks := .later }
def SignSpoiltCardSaid : Prop := Claim7.holds Tryd.pinned (.plain (OpenSpec.ofChange signSpoiltSpec)) signSpoiltCard

/-- THE TIED CARD OF 'pawllaw19.EdwardsScalars'. -/
def edwardsScalarsCard : Claim7 := { stood := { row := edwardsScalarsRow, standIns := [], harness := (true, "eb232c8b42764f78584f5ad314436eef1da2da19688a5c185306b21ef781b0b5"), looks := false }, kinds := [], alts := [], laidByText := true, laidKinds := [.wider], laidTests := true, laidLooks := .later }
def EdwardsScalarsCardSaid : Prop := Claim7.holds Tryd.pinned (.plain (OpenSpec.ofChange edwardsScalarsSpec)) edwardsScalarsCard

/-- THE TIED CARD OF 'pawllaw19.EdwardsNumbers'. -/
def edwardsNumbersCard : Claim7 := { stood := { row := edwardsNumbersRow, standIns := [], harness := (true, "eb232c8b42764f78584f5ad314436eef1da2da19688a5c185306b21ef781b0b5"), looks := false }, kinds := [], alts := [], laidByText := true, laidKinds := [.wider], laidTests := true, laidLooks := .later }
def EdwardsNumbersCardSaid : Prop := Claim7.holds Tryd.pinned (.plain (OpenSpec.ofChange edwardsNumbersSpec)) edwardsNumbersCard

/-- THE TIED CARD OF 'pawllaw19.EdwardsScales'. -/
def edwardsScalesCard : Claim7 := { stood := { row := edwardsScalesRow, standIns := [], harness := (true, "eb232c8b42764f78584f5ad314436eef1da2da19688a5c185306b21ef781b0b5"), looks := false }, kinds := [], alts := [], laidByText := true, laidKinds := [.data, .data, .data, .data], laidTests := true, laidLooks := .later }
def EdwardsScalesCardSaid : Prop := Claim7.holds Tryd.pinned (.plain (OpenSpec.ofChange edwardsScalesSpec)) edwardsScalesCard

/-- THE TIED CARD OF 'pawllaw19.EdwardsMultiples'. -/
def edwardsMultiplesCard : Claim7 := { stood := { row := edwardsMultiplesRow, standIns := [], harness := (true, "eb232c8b42764f78584f5ad314436eef1da2da19688a5c185306b21ef781b0b5"), looks := false }, kinds := [], alts := [], laidByText := true, laidKinds := [.data, .data, .data, .data, .wider], laidTests := true, laidLooks := .later }
def EdwardsMultiplesCardSaid : Prop := Claim7.holds Tryd.pinned (.plain (OpenSpec.ofChange edwardsMultiplesSpec)) edwardsMultiplesCard

/-- THE SECOND FORM's CARD OF 'pawllaw20.SignVectors'. -/
def signVectorsUptoCard : Claim7 := { stood := { row := signVectorsUptoRow, standIns := [], harness := (true, "eb232c8b42764f78584f5ad314436eef1da2da19688a5c185306b21ef781b0b5"), looks := false }, kinds := [], alts := [], laidByText := true, laidKinds := [.data, .data, .data, .data, .wider], laidTests := true, laidLooks := .later }
def SignVectorsUptoCardSaid : Prop := Claim7.holds Tryd.pinned (.plain (OpenSpec.upto signVectorsSpec)) signVectorsUptoCard

/-- THE SECOND FORM's CARD OF 'pawllaw20.SignRight'. -/
def signRightUptoCard : Claim7 := { stood := { row := signRightUptoRow, standIns := [], harness := (true, "eb232c8b42764f78584f5ad314436eef1da2da19688a5c185306b21ef781b0b5"), looks := false }, kinds := [], alts := [], laidByText := true, laidKinds := [.data, .data, .data, .data, .wider], laidTests := true, laidLooks := .later }
def SignRightUptoCardSaid : Prop := Claim7.holds Tryd.pinned (.plain (OpenSpec.upto signRightSpec)) signRightUptoCard

/-- THE SECOND FORM's CARD OF 'pawllaw20.SignOnce'. -/
def signOnceUptoCard : Claim7 := { stood := { row := signOnceUptoRow, standIns := [], harness := (true, "eb232c8b42764f78584f5ad314436eef1da2da19688a5c185306b21ef781b0b5"), looks := false }, kinds := [], alts := [], laidByText := true, laidKinds := [.data, .data, .data, .data, .wider], laidTests := true, laidLooks := .later }
def SignOnceUptoCardSaid : Prop := Claim7.holds Tryd.pinned (.plain (OpenSpec.upto signOnceSpec)) signOnceUptoCard

/-- THE SECOND FORM's CARD OF 'pawllaw20.SignParts'. -/
def signPartsUptoCard : Claim7 := { stood := { row := signPartsUptoRow, standIns := [], harness := (true, "eb232c8b42764f78584f5ad314436eef1da2da19688a5c185306b21ef781b0b5"), looks := false }, kinds := [], alts := [], laidByText := true, laidKinds := [.data, .data, .data, .data, .wider], laidTests := true, laidLooks := .later }
def SignPartsUptoCardSaid : Prop := Claim7.holds Tryd.pinned (.plain (OpenSpec.upto signPartsSpec)) signPartsUptoCard

/-- THE SECOND FORM's CARD OF 'pawllaw20.SignDresses'. -/
def signDressesUptoCard : Claim7 := { stood := { row := signDressesUptoRow, standIns := [], harness := (true, "eb232c8b42764f78584f5ad314436eef1da2da19688a5c185306b21ef781b0b5"), looks := false }, kinds := [], alts := [], laidByText := true, laidKinds := [.data, .data, .data, .data, .wider], laidTests := true, laidLooks := .later }
def SignDressesUptoCardSaid : Prop := Claim7.holds Tryd.pinned (.plain (OpenSpec.upto signDressesSpec)) signDressesUptoCard

/-- THE SECOND FORM's CARD OF 'pawllaw20.SignSpoilt'. -/
def signSpoiltUptoCard : Claim7 := { stood := { row := signSpoiltUptoRow, standIns := [], harness := (true, "eb232c8b42764f78584f5ad314436eef1da2da19688a5c185306b21ef781b0b5"), looks := false }, kinds := [], alts := [], laidByText := true, laidKinds := [.data, .data, .data, .data, .wider], laidTests := true, laidLooks := .later }
def SignSpoiltUptoCardSaid : Prop := Claim7.holds Tryd.pinned (.plain (OpenSpec.upto signSpoiltSpec)) signSpoiltUptoCard

/-- THE SECOND FORM's CARD OF 'pawllaw19.EdwardsScalars'. -/
def edwardsScalarsUptoCard : Claim7 := { stood := { row := edwardsScalarsUptoRow, standIns := [], harness := (true, "eb232c8b42764f78584f5ad314436eef1da2da19688a5c185306b21ef781b0b5"), looks := false }, kinds := [], alts := [], laidByText := true, laidKinds := [.wider], laidTests := true, laidLooks := .later }
def EdwardsScalarsUptoCardSaid : Prop := Claim7.holds Tryd.pinned (.plain (OpenSpec.upto edwardsScalarsSpec)) edwardsScalarsUptoCard

/-- THE SECOND FORM's CARD OF 'pawllaw19.EdwardsNumbers'. -/
def edwardsNumbersUptoCard : Claim7 := { stood := { row := edwardsNumbersUptoRow, standIns := [], harness := (true, "eb232c8b42764f78584f5ad314436eef1da2da19688a5c185306b21ef781b0b5"), looks := false }, kinds := [], alts := [], laidByText := true, laidKinds := [.wider], laidTests := true, laidLooks := .later }
def EdwardsNumbersUptoCardSaid : Prop := Claim7.holds Tryd.pinned (.plain (OpenSpec.upto edwardsNumbersSpec)) edwardsNumbersUptoCard

/-- THE SECOND FORM's CARD OF 'pawllaw19.EdwardsScales'. -/
def edwardsScalesUptoCard : Claim7 := { stood := { row := edwardsScalesUptoRow, standIns := [], harness := (true, "eb232c8b42764f78584f5ad314436eef1da2da19688a5c185306b21ef781b0b5"), looks := false }, kinds := [], alts := [], laidByText := true, laidKinds := [.data, .data, .data, .data], laidTests := true, laidLooks := .later }
def EdwardsScalesUptoCardSaid : Prop := Claim7.holds Tryd.pinned (.plain (OpenSpec.upto edwardsScalesSpec)) edwardsScalesUptoCard

/-- THE SECOND FORM's CARD OF 'pawllaw19.EdwardsMultiples'. -/
def edwardsMultiplesUptoCard : Claim7 := { stood := { row := edwardsMultiplesUptoRow, standIns := [], harness := (true, "eb232c8b42764f78584f5ad314436eef1da2da19688a5c185306b21ef781b0b5"), looks := false }, kinds := [], alts := [], laidByText := true, laidKinds := [.data, .data, .data, .data, .wider], laidTests := true, laidLooks := .later }
def EdwardsMultiplesUptoCardSaid : Prop := Claim7.holds Tryd.pinned (.plain (OpenSpec.upto edwardsMultiplesSpec)) edwardsMultiplesUptoCard
end Rows
end Go.Proofs.YtajaiiidafkijaaDoor
