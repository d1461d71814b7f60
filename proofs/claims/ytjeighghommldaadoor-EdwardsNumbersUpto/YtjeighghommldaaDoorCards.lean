/-
  DERIVED. GIVEN WITH THE SEED: THE CARDS: each row of YtjeighghommldaaDoorRows.lean that lists a variable, with what it lists TIED to the program's text (the seventh form; the later family's looks); each row that meets fmt, with fmt's text TOLD by the authors' own Lean function (tested against real Go, not proved from fmt's source: count such statements apart). THE CARD IS WHAT COUNTS. Prove the row's statement (the work); the ties are given (YtjeighghommldaaDoorTie.lean); close each card by the builder's one call (the guide's Derived/Test/ToyasCard.lean, 'card_holds'). Laid BY PROGRAM, IN A SANDBOX (cutbox-door.mjs). By AI agents, Wed Nov 11 2026. No macro, syntax, notation, axiom, sorry.
-/
import Derived.Test.YtjeighghommldaaDoorRows
import GoSem.ClaimSeven
namespace Go.Proofs.YtjeighghommldaaDoor
namespace Rows

/-- THE TIED CARD OF 'pawllaw19.EdwardsMultiples'. -/
def edwardsMultiplesCard : Claim7 := { stood := { row := edwardsMultiplesRow, standIns := [], harness := (true, "7524ead13c139ea8577a3e358091b822751d6458450e8f9ab66199f849cd508d"), looks := false }, kinds := [], alts := [], laidByText := true, laidKinds := [.data, .data, .data, .data, .wider], laidTests := true, laidLooks := .later }
def EdwardsMultiplesCardSaid : Prop := Claim7.holds Tryd.pinned (.plain (OpenSpec.ofChange edwardsMultiplesSpec)) edwardsMultiplesCard

/-- THE TIED CARD OF 'pawllaw19.EdwardsNumbers'. -/
def edwardsNumbersCard : Claim7 := { stood := { row := edwardsNumbersRow, standIns := [], harness := (true, "7524ead13c139ea8577a3e358091b822751d6458450e8f9ab66199f849cd508d"), looks := false }, kinds := [], alts := [], laidByText := true, laidKinds := [.wider], laidTests := true, laidLooks := .later }
def EdwardsNumbersCardSaid : Prop := Claim7.holds Tryd.pinned (.plain (OpenSpec.ofChange edwardsNumbersSpec)) edwardsNumbersCard

/-- THE SECOND FORM's CARD OF 'pawllaw19.EdwardsMultiples'. -/
def edwardsMultiplesUptoCard : Claim7 := { stood := { row := edwardsMultiplesUptoRow, standIns := [], harness := (true, "7524ead13c139ea8577a3e358091b822751d6458450e8f9ab66199f849cd508d"), looks := false }, kinds := [], alts := [], laidByText := true, laidKinds := [.data, .data, .data, .data, .wider], laidTests := true, laidLooks := .later }
def EdwardsMultiplesUptoCardSaid : Prop := Claim7.holds Tryd.pinned (.plain (OpenSpec.upto edwardsMultiplesSpec)) edwardsMultiplesUptoCard

/-- THE SECOND FORM's CARD OF 'pawllaw19.EdwardsNumbers'. -/
def edwardsNumbersUptoCard : Claim7 := { stood := { row := edwardsNumbersUptoRow, standIns := [], harness := (true, "7524ead13c139ea8577a3e358091b822751d6458450e8f9ab66199f849cd508d"), looks := false }, kinds := [], alts := [], laidByText := true, laidKinds := [.wider], laidTests := true, laidLooks := .later }
def EdwardsNumbersUptoCardSaid : Prop := Claim7.holds Tryd.pinned (.plain (OpenSpec.upto edwardsNumbersSpec)) edwardsNumbersUptoCard
end Rows
end Go.Proofs.YtjeighghommldaaDoor
