/-
  DERIVED. GIVEN WITH THE SEED: THE CARDS: each row of YtdcpcdkbhgkmlaaDoorRows.lean that lists a variable, with what it lists TIED to the program's text (the seventh form; the later family's looks); each row that meets fmt, with fmt's text TOLD by the authors' own Lean function (tested against real Go, not proved from fmt's source: count such statements apart). THE CARD IS WHAT COUNTS. Prove the row's statement (the work); the ties are given (YtdcpcdkbhgkmlaaDoorTie.lean); close each card by the builder's one call (the guide's Derived/Test/ToyasCard.lean, 'card_holds'). Laid BY PROGRAM, IN A SANDBOX (cutbox-door.mjs). By AI agents, Wed Nov 11 2026. No macro, syntax, notation, axiom, sorry.
-/
import Derived.Test.YtdcpcdkbhgkmlaaDoorRows
import GoSem.ClaimSeven
namespace Go.Proofs.YtdcpcdkbhgkmlaaDoor
namespace Rows

/-- THE TIED CARD OF 'pawllaw19.EdwardsScales'. -/
def edwardsScalesCard : Claim7 := { stood := { row := edwardsScalesRow, standIns := [], harness := (true, "befcf1b1d1e3651b26d20262929b65d0a26fac13e67a21a735e5fac8c8a5d770"), looks := false }, kinds := [], alts := [], laidByText := true, laidKinds := [.data, .data, .data, .data], laidTests := true, laidLooks := .later }
def EdwardsScalesCardSaid : Prop := Claim7.holds Tryd.pinned (.plain (OpenSpec.ofChange edwardsScalesSpec)) edwardsScalesCard

/-- THE TIED CARD OF 'pawllaw19.EdwardsScalars'. -/
def edwardsScalarsCard : Claim7 := { stood := { row := edwardsScalarsRow, standIns := [], harness := (true, "befcf1b1d1e3651b26d20262929b65d0a26fac13e67a21a735e5fac8c8a5d770"), looks := false }, kinds := [], alts := [], laidByText := true, laidKinds := [.wider], laidTests := true, laidLooks := .later }
def EdwardsScalarsCardSaid : Prop := Claim7.holds Tryd.pinned (.plain (OpenSpec.ofChange edwardsScalarsSpec)) edwardsScalarsCard

/-- THE SECOND FORM's CARD OF 'pawllaw19.EdwardsScales'. -/
def edwardsScalesUptoCard : Claim7 := { stood := { row := edwardsScalesUptoRow, standIns := [], harness := (true, "befcf1b1d1e3651b26d20262929b65d0a26fac13e67a21a735e5fac8c8a5d770"), looks := false }, kinds := [], alts := [], laidByText := true, laidKinds := [.data, .data, .data, .data], laidTests := true, laidLooks := .later }
def EdwardsScalesUptoCardSaid : Prop := Claim7.holds Tryd.pinned (.plain (OpenSpec.upto edwardsScalesSpec)) edwardsScalesUptoCard

/-- THE SECOND FORM's CARD OF 'pawllaw19.EdwardsScalars'. -/
def edwardsScalarsUptoCard : Claim7 := { stood := { row := edwardsScalarsUptoRow, standIns := [], harness := (true, "befcf1b1d1e3651b26d20262929b65d0a26fac13e67a21a735e5fac8c8a5d770"), looks := false }, kinds := [], alts := [], laidByText := true, laidKinds := [.wider], laidTests := true, laidLooks := .later }
def EdwardsScalarsUptoCardSaid : Prop := Claim7.holds Tryd.pinned (.plain (OpenSpec.upto edwardsScalarsSpec)) edwardsScalarsUptoCard
end Rows
end Go.Proofs.YtdcpcdkbhgkmlaaDoor
