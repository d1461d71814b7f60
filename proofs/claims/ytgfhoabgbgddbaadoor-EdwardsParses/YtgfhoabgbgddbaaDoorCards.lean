/-
  DERIVED. GIVEN WITH THE SEED: THE CARDS: each row of YtgfhoabgbgddbaaDoorRows.lean that lists a variable, with what it lists TIED to the program's text (the seventh form; the later family's looks); each row that meets fmt, with fmt's text TOLD by the authors' own Lean function (tested against real Go, not proved from fmt's source: count such statements apart). THE CARD IS WHAT COUNTS. Prove the row's statement (the work); the ties are given (YtgfhoabgbgddbaaDoorTie.lean); close each card by the builder's one call (the guide's Derived/Test/ToyasCard.lean, 'card_holds'). Laid BY PROGRAM, IN A SANDBOX (cutbox-door.mjs). By AI agents, Wed Nov 11 2026. No macro, syntax, notation, axiom, sorry.
-/
import Derived.Test.YtgfhoabgbgddbaaDoorRows
import GoSem.ClaimSeven
namespace Go.Proofs.YtgfhoabgbgddbaaDoor
namespace Rows

/-- THE TIED CARD OF 'pawllaw19.EdwardsParses'. -/
def edwardsParsesCard : Claim7 := { stood := { row := edwardsParsesRow, standIns := [], harness := (true, "5da59d85770c1c835dcacf2a8b0dc3becfc3ec8055cfefc32a55bbbb5c9a8155"), looks := false }, kinds := [], alts := [], laidByText := true, laidKinds := [.data, .data, .data, .data], laidTests := true, laidLooks := .later }
def EdwardsParsesCardSaid : Prop := Claim7.holds Tryd.pinned (.plain (OpenSpec.ofChange edwardsParsesSpec)) edwardsParsesCard

/-- THE TIED CARD OF 'pawllaw19.EdwardsScales'. -/
def edwardsScalesCard : Claim7 := { stood := { row := edwardsScalesRow, standIns := [], harness := (true, "5da59d85770c1c835dcacf2a8b0dc3becfc3ec8055cfefc32a55bbbb5c9a8155"), looks := false }, kinds := [], alts := [], laidByText := true, laidKinds := [.data, .data, .data, .data], laidTests := true, laidLooks := .later }
def EdwardsScalesCardSaid : Prop := Claim7.holds Tryd.pinned (.plain (OpenSpec.ofChange edwardsScalesSpec)) edwardsScalesCard

/-- THE TIED CARD OF 'pawllaw19.EdwardsScalars'. -/
def edwardsScalarsCard : Claim7 := { stood := { row := edwardsScalarsRow, standIns := [], harness := (true, "5da59d85770c1c835dcacf2a8b0dc3becfc3ec8055cfefc32a55bbbb5c9a8155"), looks := false }, kinds := [], alts := [], laidByText := true, laidKinds := [.wider], laidTests := true, laidLooks := .later }
def EdwardsScalarsCardSaid : Prop := Claim7.holds Tryd.pinned (.plain (OpenSpec.ofChange edwardsScalarsSpec)) edwardsScalarsCard

/-- THE TIED CARD OF 'pawllaw19.EdwardsGroup'. -/
def edwardsGroupCard : Claim7 := { stood := { row := edwardsGroupRow, standIns := [], harness := (true, "5da59d85770c1c835dcacf2a8b0dc3becfc3ec8055cfefc32a55bbbb5c9a8155"), looks := false }, kinds := [], alts := [], laidByText := true, laidKinds := [.data, .data, .data, .data], laidTests := true, laidLooks := .later }
def EdwardsGroupCardSaid : Prop := Claim7.holds Tryd.pinned (.plain (OpenSpec.ofChange edwardsGroupSpec)) edwardsGroupCard

/-- THE TIED CARD OF 'pawllaw19.EdwardsPoints'. -/
def edwardsPointsCard : Claim7 := { stood := { row := edwardsPointsRow, standIns := [], harness := (true, "5da59d85770c1c835dcacf2a8b0dc3becfc3ec8055cfefc32a55bbbb5c9a8155"), looks := false }, kinds := [], alts := [], laidByText := true, laidKinds := [.data, .data, .data, .data], laidTests := true, laidLooks := .later }
def EdwardsPointsCardSaid : Prop := Claim7.holds Tryd.pinned (.plain (OpenSpec.ofChange edwardsPointsSpec)) edwardsPointsCard

/-- THE TIED CARD OF 'pawllaw19.EdwardsMultiples'. -/
def edwardsMultiplesCard : Claim7 := { stood := { row := edwardsMultiplesRow, standIns := [], harness := (true, "5da59d85770c1c835dcacf2a8b0dc3becfc3ec8055cfefc32a55bbbb5c9a8155"), looks := false }, kinds := [], alts := [], laidByText := true, laidKinds := [.data, .data, .data, .data, .wider], laidTests := true, laidLooks := .later }
def EdwardsMultiplesCardSaid : Prop := Claim7.holds Tryd.pinned (.plain (OpenSpec.ofChange edwardsMultiplesSpec)) edwardsMultiplesCard

/-- THE TIED CARD OF 'pawllaw19.EdwardsForm'. -/
def edwardsFormCard : Claim7 := { stood := { row := edwardsFormRow, standIns := [], harness := (true, "5da59d85770c1c835dcacf2a8b0dc3becfc3ec8055cfefc32a55bbbb5c9a8155"), looks := false }, kinds := [], alts := [], laidByText := true, laidKinds := [.data, .data, .data, .data], laidTests := true, laidLooks := .later }
def EdwardsFormCardSaid : Prop := Claim7.holds Tryd.pinned (.plain (OpenSpec.ofChange edwardsFormSpec)) edwardsFormCard

/-- THE TIED CARD OF 'pawllaw19.EdwardsDresses'. -/
def edwardsDressesCard : Claim7 := { stood := { row := edwardsDressesRow, standIns := [], harness := (true, "5da59d85770c1c835dcacf2a8b0dc3becfc3ec8055cfefc32a55bbbb5c9a8155"), looks := false }, kinds := [], alts := [], laidByText := true, laidKinds := [.data, .data, .data, .data], laidTests := true, laidLooks := .later }
def EdwardsDressesCardSaid : Prop := Claim7.holds Tryd.pinned (.plain (OpenSpec.ofChange edwardsDressesSpec)) edwardsDressesCard

/-- THE TIED CARD OF 'pawllaw19.EdwardsNumbers'. -/
def edwardsNumbersCard : Claim7 := { stood := { row := edwardsNumbersRow, standIns := [], harness := (true, "5da59d85770c1c835dcacf2a8b0dc3becfc3ec8055cfefc32a55bbbb5c9a8155"), looks := false }, kinds := [], alts := [], laidByText := true, laidKinds := [.wider], laidTests := true, laidLooks := .later }
def EdwardsNumbersCardSaid : Prop := Claim7.holds Tryd.pinned (.plain (OpenSpec.ofChange edwardsNumbersSpec)) edwardsNumbersCard

/-- THE SECOND FORM's CARD OF 'pawllaw19.EdwardsParses'. -/
def edwardsParsesUptoCard : Claim7 := { stood := { row := edwardsParsesUptoRow, standIns := [], harness := (true, "5da59d85770c1c835dcacf2a8b0dc3becfc3ec8055cfefc32a55bbbb5c9a8155"), looks := false }, kinds := [], alts := [], laidByText := true, laidKinds := [.data, .data, .data, .data], laidTests := true, laidLooks := .later }
def EdwardsParsesUptoCardSaid : Prop := Claim7.holds Tryd.pinned (.plain (OpenSpec.upto edwardsParsesSpec)) edwardsParsesUptoCard

/-- THE SECOND FORM's CARD OF 'pawllaw19.EdwardsScales'. -/
def edwardsScalesUptoCard : Claim7 := { stood := { row := edwardsScalesUptoRow, standIns := [], harness := (true, "5da59d85770c1c835dcacf2a8b0dc3becfc3ec8055cfefc32a55bbbb5c9a8155"), looks := false }, kinds := [], alts := [], laidByText := true, laidKinds := [.data, .data, .data, .data], laidTests := true, laidLooks := .later }
def EdwardsScalesUptoCardSaid : Prop := Claim7.holds Tryd.pinned (.plain (OpenSpec.upto edwardsScalesSpec)) edwardsScalesUptoCard

/-- THE SECOND FORM's CARD OF 'pawllaw19.EdwardsScalars'. -/
def edwardsScalarsUptoCard : Claim7 := { stood := { row := edwardsScalarsUptoRow, standIns := [], harness := (true, "5da59d85770c1c835dcacf2a8b0dc3becfc3ec8055cfefc32a55bbbb5c9a8155"), looks := false }, kinds := [], alts := [], laidByText := true, laidKinds := [.wider], laidTests := true, laidLooks := .later }
def EdwardsScalarsUptoCardSaid : Prop := Claim7.holds Tryd.pinned (.plain (OpenSpec.upto edwardsScalarsSpec)) edwardsScalarsUptoCard

/-- THE SECOND FORM's CARD OF 'pawllaw19.EdwardsGroup'. -/
def edwardsGroupUptoCard : Claim7 := { stood := { row := edwardsGroupUptoRow, standIns := [], harness := (true, "5da59d85770c1c835dcacf2a8b0dc3becfc3ec8055cfefc32a55bbbb5c9a8155"), looks := false }, kinds := [], alts := [], laidByText := true, laidKinds := [.data, .data, .data, .data], laidTests := true, laidLooks := .later }
def EdwardsGroupUptoCardSaid : Prop := Claim7.holds Tryd.pinned (.plain (OpenSpec.upto edwardsGroupSpec)) edwardsGroupUptoCard

/-- THE SECOND FORM's CARD OF 'pawllaw19.EdwardsPoints'. -/
def edwardsPointsUptoCard : Claim7 := { stood := { row := edwardsPointsUptoRow, standIns := [], harness := (true, "5da59d85770c1c835dcacf2a8b0dc3becfc3ec8055cfefc32a55bbbb5c9a8155"), looks := false }, kinds := [], alts := [], laidByText := true, laidKinds := [.data, .data, .data, .data], laidTests := true, laidLooks := .later }
def EdwardsPointsUptoCardSaid : Prop := Claim7.holds Tryd.pinned (.plain (OpenSpec.upto edwardsPointsSpec)) edwardsPointsUptoCard

/-- THE SECOND FORM's CARD OF 'pawllaw19.EdwardsMultiples'. -/
def edwardsMultiplesUptoCard : Claim7 := { stood := { row := edwardsMultiplesUptoRow, standIns := [], harness := (true, "5da59d85770c1c835dcacf2a8b0dc3becfc3ec8055cfefc32a55bbbb5c9a8155"), looks := false }, kinds := [], alts := [], laidByText := true, laidKinds := [.data, .data, .data, .data, .wider], laidTests := true, laidLooks := .later }
def EdwardsMultiplesUptoCardSaid : Prop := Claim7.holds Tryd.pinned (.plain (OpenSpec.upto edwardsMultiplesSpec)) edwardsMultiplesUptoCard

/-- THE SECOND FORM's CARD OF 'pawllaw19.EdwardsForm'. -/
def edwardsFormUptoCard : Claim7 := { stood := { row := edwardsFormUptoRow, standIns := [], harness := (true, "5da59d85770c1c835dcacf2a8b0dc3becfc3ec8055cfefc32a55bbbb5c9a8155"), looks := false }, kinds := [], alts := [], laidByText := true, laidKinds := [.data, .data, .data, .data], laidTests := true, laidLooks := .later }
def EdwardsFormUptoCardSaid : Prop := Claim7.holds Tryd.pinned (.plain (OpenSpec.upto edwardsFormSpec)) edwardsFormUptoCard

/-- THE SECOND FORM's CARD OF 'pawllaw19.EdwardsDresses'. -/
def edwardsDressesUptoCard : Claim7 := { stood := { row := edwardsDressesUptoRow, standIns := [], harness := (true, "5da59d85770c1c835dcacf2a8b0dc3becfc3ec8055cfefc32a55bbbb5c9a8155"), looks := false }, kinds := [], alts := [], laidByText := true, laidKinds := [.data, .data, .data, .data], laidTests := true, laidLooks := .later }
def EdwardsDressesUptoCardSaid : Prop := Claim7.holds Tryd.pinned (.plain (OpenSpec.upto edwardsDressesSpec)) edwardsDressesUptoCard

/-- THE SECOND FORM's CARD OF 'pawllaw19.EdwardsNumbers'. -/
def edwardsNumbersUptoCard : Claim7 := { stood := { row := edwardsNumbersUptoRow, standIns := [], harness := (true, "5da59d85770c1c835dcacf2a8b0dc3becfc3ec8055cfefc32a55bbbb5c9a8155"), looks := false }, kinds := [], alts := [], laidByText := true, laidKinds := [.wider], laidTests := true, laidLooks := .later }
def EdwardsNumbersUptoCardSaid : Prop := Claim7.holds Tryd.pinned (.plain (OpenSpec.upto edwardsNumbersSpec)) edwardsNumbersUptoCard
end Rows
end Go.Proofs.YtgfhoabgbgddbaaDoor
