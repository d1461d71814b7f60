/-
  DERIVED. GIVEN WITH THE SEED: THE CARDS: each row of YtmcokphkaekdaabDoorRows.lean that lists a variable, with what it lists TIED to the program's text (the seventh form; the later family's looks); each row that meets fmt, with fmt's text TOLD by the authors' own Lean function (tested against real Go, not proved from fmt's source: count such statements apart). THE CARD IS WHAT COUNTS. Prove the row's statement (the work); the ties are given (YtmcokphkaekdaabDoorTie.lean); close each card by the builder's one call (the guide's Derived/Test/ToyasCard.lean, 'card_holds'). Laid BY PROGRAM, IN A SANDBOX (cutbox-door.mjs). By AI agents, Wed Nov 11 2026. No macro, syntax, notation, axiom, sorry.
-/
import Derived.Test.YtmcokphkaekdaabDoorRows
import GoSem.ClaimSeven
namespace Go.Proofs.YtmcokphkaekdaabDoor
namespace Rows

/-- THE TIED CARD OF 'pawllaw04.MacIsHashes'. -/
def macIsHashesCard : Claim7 := { stood := { row := macIsHashesRow, standIns := [], harness := (true, "6aefa53902de50d27ac063986d9c29988e6dcbe93138d877a622e1d546e34de3"), looks := false }, kinds := [], alts := [], laidByText := true, laidKinds := [.data, .data], laidTests := true, laidLooks := .later }
def MacIsHashesCardSaid : Prop := Claim7.holds Tryd.pinned (.plain (OpenSpec.ofChange macIsHashesSpec)) macIsHashesCard

/-- THE TIED CARD OF 'pawllaw04.MacKeys'. -/
def macKeysCard : Claim7 := { stood := { row := macKeysRow, standIns := [], harness := (true, "6aefa53902de50d27ac063986d9c29988e6dcbe93138d877a622e1d546e34de3"), looks := false }, kinds := [], alts := [], laidByText := true, laidKinds := [.data, .data], laidTests := true, laidLooks := .later }
def MacKeysCardSaid : Prop := Claim7.holds Tryd.pinned (.plain (OpenSpec.ofChange macKeysSpec)) macKeysCard

/-- THE TIED CARD OF 'pawllaw04.MacPieces'. -/
def macPiecesCard : Claim7 := { stood := { row := macPiecesRow, standIns := [], harness := (true, "6aefa53902de50d27ac063986d9c29988e6dcbe93138d877a622e1d546e34de3"), looks := false }, kinds := [], alts := [], laidByText := true, laidKinds := [.data, .data], laidTests := true, laidLooks := .later }
def MacPiecesCardSaid : Prop := Claim7.holds Tryd.pinned (.plain (OpenSpec.ofChange macPiecesSpec)) macPiecesCard

/-- THE TIED CARD OF 'pawllaw04.MacBegins'. -/
def macBeginsCard : Claim7 := { stood := { row := macBeginsRow, standIns := [], harness := (true, "6aefa53902de50d27ac063986d9c29988e6dcbe93138d877a622e1d546e34de3"), looks := false }, kinds := [], alts := [], laidByText := true, laidKinds := [.data, .data], laidTests := true, laidLooks := .later }
def MacBeginsCardSaid : Prop := Claim7.holds Tryd.pinned (.plain (OpenSpec.ofChange macBeginsSpec)) macBeginsCard

/-- THE TIED CARD OF 'pawllaw04.MacHalves'. -/
def macHalvesCard : Claim7 := { stood := { row := macHalvesRow, standIns := [], harness := (true, "6aefa53902de50d27ac063986d9c29988e6dcbe93138d877a622e1d546e34de3"), looks := false }, kinds := [], alts := [], laidByText := true, laidKinds := [.data, .data], laidTests := true, laidLooks := .later }
def MacHalvesCardSaid : Prop := Claim7.holds Tryd.pinned (.plain (OpenSpec.ofChange macHalvesSpec)) macHalvesCard

/-- THE SECOND FORM's CARD OF 'pawllaw04.MacIsHashes'. -/
def macIsHashesUptoCard : Claim7 := { stood := { row := macIsHashesUptoRow, standIns := [], harness := (true, "6aefa53902de50d27ac063986d9c29988e6dcbe93138d877a622e1d546e34de3"), looks := false }, kinds := [], alts := [], laidByText := true, laidKinds := [.data, .data], laidTests := true, laidLooks := .later }
def MacIsHashesUptoCardSaid : Prop := Claim7.holds Tryd.pinned (.plain (OpenSpec.upto macIsHashesSpec)) macIsHashesUptoCard

/-- THE SECOND FORM's CARD OF 'pawllaw04.MacKeys'. -/
def macKeysUptoCard : Claim7 := { stood := { row := macKeysUptoRow, standIns := [], harness := (true, "6aefa53902de50d27ac063986d9c29988e6dcbe93138d877a622e1d546e34de3"), looks := false }, kinds := [], alts := [], laidByText := true, laidKinds := [.data, .data], laidTests := true, laidLooks := .later }
def MacKeysUptoCardSaid : Prop := Claim7.holds Tryd.pinned (.plain (OpenSpec.upto macKeysSpec)) macKeysUptoCard

/-- THE SECOND FORM's CARD OF 'pawllaw04.MacPieces'. -/
def macPiecesUptoCard : Claim7 := { stood := { row := macPiecesUptoRow, standIns := [], harness := (true, "6aefa53902de50d27ac063986d9c29988e6dcbe93138d877a622e1d546e34de3"), looks := false }, kinds := [], alts := [], laidByText := true, laidKinds := [.data, .data], laidTests := true, laidLooks := .later }
def MacPiecesUptoCardSaid : Prop := Claim7.holds Tryd.pinned (.plain (OpenSpec.upto macPiecesSpec)) macPiecesUptoCard

/-- THE SECOND FORM's CARD OF 'pawllaw04.MacBegins'. -/
def macBeginsUptoCard : Claim7 := { stood := { row := macBeginsUptoRow, standIns := [], harness := (true, "6aefa53902de50d27ac063986d9c29988e6dcbe93138d877a622e1d546e34de3"), looks := false }, kinds := [], alts := [], laidByText := true, laidKinds := [.data, .data], laidTests := true, laidLooks := .later }
def MacBeginsUptoCardSaid : Prop := Claim7.holds Tryd.pinned (.plain (OpenSpec.upto macBeginsSpec)) macBeginsUptoCard

/-- THE SECOND FORM's CARD OF 'pawllaw04.MacHalves'. -/
def macHalvesUptoCard : Claim7 := { stood := { row := macHalvesUptoRow, standIns := [], harness := (true, "6aefa53902de50d27ac063986d9c29988e6dcbe93138d877a622e1d546e34de3"), looks := false }, kinds := [], alts := [], laidByText := true, laidKinds := [.data, .data], laidTests := true, laidLooks := .later }
def MacHalvesUptoCardSaid : Prop := Claim7.holds Tryd.pinned (.plain (OpenSpec.upto macHalvesSpec)) macHalvesUptoCard
end Rows
end Go.Proofs.YtmcokphkaekdaabDoor
