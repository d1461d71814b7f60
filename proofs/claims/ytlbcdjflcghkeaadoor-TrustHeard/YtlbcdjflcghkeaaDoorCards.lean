/-
  DERIVED. GIVEN WITH THE SEED: THE CARDS: each row of YtlbcdjflcghkeaaDoorRows.lean that lists a variable, with what it lists TIED to the program's text (the seventh form; the later family's looks); each row that meets fmt, with fmt's text TOLD by the authors' own Lean function (tested against real Go, not proved from fmt's source: count such statements apart). THE CARD IS WHAT COUNTS. Prove the row's statement (the work); the ties are given (YtlbcdjflcghkeaaDoorTie.lean); close each card by the builder's one call (the guide's Derived/Test/ToyasCard.lean, 'card_holds'). Laid BY PROGRAM, IN A SANDBOX (cutbox-door.mjs). By AI agents, Wed Nov 11 2026. No macro, syntax, notation, axiom, sorry.
-/
import Derived.Test.YtlbcdjflcghkeaaDoorRows
import GoSem.ClaimSeven
namespace Go.Proofs.YtlbcdjflcghkeaaDoor
namespace Rows

/-- THE TIED CARD OF 'pawllaw22.TrustStops'. -/
def trustStopsCard : Claim7 := { stood := { row := trustStopsRow, standIns := [], harness := (true, "3bffb34766b5e32eca91e18b8e765493e0f64286c70e757c393ec265904787eb"), looks := false }, kinds := [], alts := [], laidByText := true, laidKinds := [.data, .data, .data, .data, .data], laidTests := true, laidLooks := .later }
def TrustStopsCardSaid : Prop := Claim7.holds Tryd.pinned (.plain (OpenSpec.ofChange trustStopsSpec)) trustStopsCard

/-- THE TIED CARD OF 'pawllaw22.TrustHeard'. -/
def trustHeardCard : Claim7 := { stood := { row := trustHeardRow, standIns := [], harness := (true, "3bffb34766b5e32eca91e18b8e765493e0f64286c70e757c393ec265904787eb"), looks := false }, kinds := [], alts := [], laidByText := true, laidKinds := [.data, .data, .data, .data, .data], laidTests := true, laidLooks := .later }
def TrustHeardCardSaid : Prop := Claim7.holds Tryd.pinned (.plain (OpenSpec.ofChange trustHeardSpec)) trustHeardCard

/-- THE SECOND FORM's CARD OF 'pawllaw22.TrustStops'. -/
def trustStopsUptoCard : Claim7 := { stood := { row := trustStopsUptoRow, standIns := [], harness := (true, "3bffb34766b5e32eca91e18b8e765493e0f64286c70e757c393ec265904787eb"), looks := false }, kinds := [], alts := [], laidByText := true, laidKinds := [.data, .data, .data, .data, .data], laidTests := true, laidLooks := .later }
def TrustStopsUptoCardSaid : Prop := Claim7.holds Tryd.pinned (.plain (OpenSpec.upto trustStopsSpec)) trustStopsUptoCard

/-- THE SECOND FORM's CARD OF 'pawllaw22.TrustHeard'. -/
def trustHeardUptoCard : Claim7 := { stood := { row := trustHeardUptoRow, standIns := [], harness := (true, "3bffb34766b5e32eca91e18b8e765493e0f64286c70e757c393ec265904787eb"), looks := false }, kinds := [], alts := [], laidByText := true, laidKinds := [.data, .data, .data, .data, .data], laidTests := true, laidLooks := .later }
def TrustHeardUptoCardSaid : Prop := Claim7.holds Tryd.pinned (.plain (OpenSpec.upto trustHeardSpec)) trustHeardUptoCard
end Rows
end Go.Proofs.YtlbcdjflcghkeaaDoor
