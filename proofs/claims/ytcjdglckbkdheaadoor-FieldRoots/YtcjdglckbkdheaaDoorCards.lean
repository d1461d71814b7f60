/-
  DERIVED. GIVEN WITH THE SEED: THE CARDS: each row of YtcjdglckbkdheaaDoorRows.lean that lists a variable, with what it lists TIED to the program's text (the seventh form; the later family's looks); each row that meets fmt, with fmt's text TOLD by the authors' own Lean function (tested against real Go, not proved from fmt's source: count such statements apart). THE CARD IS WHAT COUNTS. Prove the row's statement (the work); the ties are given (YtcjdglckbkdheaaDoorTie.lean); close each card by the builder's one call (the guide's Derived/Test/ToyasCard.lean, 'card_holds'). Laid BY PROGRAM, IN A SANDBOX (cutbox-door.mjs). By AI agents, Wed Nov 11 2026. No macro, syntax, notation, axiom, sorry.
-/
import Derived.Test.YtcjdglckbkdheaaDoorRows
import GoSem.ClaimSeven
namespace Go.Proofs.YtcjdglckbkdheaaDoor
namespace Rows

/-- THE TIED CARD OF 'pawllaw01.FieldAll'. -/
def fieldAllCard : Claim7 := { stood := { row := fieldAllRow, standIns := [], harness := (true, "523b632f4639905d0d6e26277c6fb31847ad684cc06a7338bec68fac6c5c0b2c"), looks := false }, kinds := [], alts := [], laidByText := true, laidKinds := [.data, .data], laidTests := true, laidLooks := .later }
def FieldAllCardSaid : Prop := Claim7.holds Tryd.pinned (.plain (OpenSpec.ofChange fieldAllSpec)) fieldAllCard

/-- THE TIED CARD OF 'pawllaw01.FieldPairs'. -/
def fieldPairsCard : Claim7 := { stood := { row := fieldPairsRow, standIns := [], harness := (true, "523b632f4639905d0d6e26277c6fb31847ad684cc06a7338bec68fac6c5c0b2c"), looks := false }, kinds := [], alts := [], laidByText := true, laidKinds := [.data], laidTests := true, laidLooks := .later }
def FieldPairsCardSaid : Prop := Claim7.holds Tryd.pinned (.plain (OpenSpec.ofChange fieldPairsSpec)) fieldPairsCard

/-- THE TIED CARD OF 'pawllaw01.FieldRoots'. -/
def fieldRootsCard : Claim7 := { stood := { row := fieldRootsRow, standIns := [], harness := (true, "523b632f4639905d0d6e26277c6fb31847ad684cc06a7338bec68fac6c5c0b2c"), looks := false }, kinds := [], alts := [], laidByText := true, laidKinds := [.data, .data], laidTests := true, laidLooks := .later }
def FieldRootsCardSaid : Prop := Claim7.holds Tryd.pinned (.plain (OpenSpec.ofChange fieldRootsSpec)) fieldRootsCard

/-- THE TIED CARD OF 'pawllaw01.FieldRing'. -/
def fieldRingCard : Claim7 := { stood := { row := fieldRingRow, standIns := [], harness := (true, "523b632f4639905d0d6e26277c6fb31847ad684cc06a7338bec68fac6c5c0b2c"), looks := false }, kinds := [], alts := [], laidByText := true, laidKinds := [.data], laidTests := true, laidLooks := .later }
def FieldRingCardSaid : Prop := Claim7.holds Tryd.pinned (.plain (OpenSpec.ofChange fieldRingSpec)) fieldRingCard

/-- THE TIED CARD OF 'pawllaw01.FieldSquares'. -/
def fieldSquaresCard : Claim7 := { stood := { row := fieldSquaresRow, standIns := [], harness := (true, "523b632f4639905d0d6e26277c6fb31847ad684cc06a7338bec68fac6c5c0b2c"), looks := false }, kinds := [], alts := [], laidByText := true, laidKinds := [.data, .data], laidTests := true, laidLooks := .later }
def FieldSquaresCardSaid : Prop := Claim7.holds Tryd.pinned (.plain (OpenSpec.ofChange fieldSquaresSpec)) fieldSquaresCard

/-- THE TIED CARD OF 'pawllaw01.FieldForm'. -/
def fieldFormCard : Claim7 := { stood := { row := fieldFormRow, standIns := [], harness := (true, "523b632f4639905d0d6e26277c6fb31847ad684cc06a7338bec68fac6c5c0b2c"), looks := false }, kinds := [], alts := [], laidByText := true, laidKinds := [.data], laidTests := true, laidLooks := .later }
def FieldFormCardSaid : Prop := Claim7.holds Tryd.pinned (.plain (OpenSpec.ofChange fieldFormSpec)) fieldFormCard

/-- THE SECOND FORM's CARD OF 'pawllaw01.FieldAll'. -/
def fieldAllUptoCard : Claim7 := { stood := { row := fieldAllUptoRow, standIns := [], harness := (true, "523b632f4639905d0d6e26277c6fb31847ad684cc06a7338bec68fac6c5c0b2c"), looks := false }, kinds := [], alts := [], laidByText := true, laidKinds := [.data, .data], laidTests := true, laidLooks := .later }
def FieldAllUptoCardSaid : Prop := Claim7.holds Tryd.pinned (.plain (OpenSpec.upto fieldAllSpec)) fieldAllUptoCard

/-- THE SECOND FORM's CARD OF 'pawllaw01.FieldPairs'. -/
def fieldPairsUptoCard : Claim7 := { stood := { row := fieldPairsUptoRow, standIns := [], harness := (true, "523b632f4639905d0d6e26277c6fb31847ad684cc06a7338bec68fac6c5c0b2c"), looks := false }, kinds := [], alts := [], laidByText := true, laidKinds := [.data], laidTests := true, laidLooks := .later }
def FieldPairsUptoCardSaid : Prop := Claim7.holds Tryd.pinned (.plain (OpenSpec.upto fieldPairsSpec)) fieldPairsUptoCard

/-- THE SECOND FORM's CARD OF 'pawllaw01.FieldRoots'. -/
def fieldRootsUptoCard : Claim7 := { stood := { row := fieldRootsUptoRow, standIns := [], harness := (true, "523b632f4639905d0d6e26277c6fb31847ad684cc06a7338bec68fac6c5c0b2c"), looks := false }, kinds := [], alts := [], laidByText := true, laidKinds := [.data, .data], laidTests := true, laidLooks := .later }
def FieldRootsUptoCardSaid : Prop := Claim7.holds Tryd.pinned (.plain (OpenSpec.upto fieldRootsSpec)) fieldRootsUptoCard

/-- THE SECOND FORM's CARD OF 'pawllaw01.FieldRing'. -/
def fieldRingUptoCard : Claim7 := { stood := { row := fieldRingUptoRow, standIns := [], harness := (true, "523b632f4639905d0d6e26277c6fb31847ad684cc06a7338bec68fac6c5c0b2c"), looks := false }, kinds := [], alts := [], laidByText := true, laidKinds := [.data], laidTests := true, laidLooks := .later }
def FieldRingUptoCardSaid : Prop := Claim7.holds Tryd.pinned (.plain (OpenSpec.upto fieldRingSpec)) fieldRingUptoCard

/-- THE SECOND FORM's CARD OF 'pawllaw01.FieldSquares'. -/
def fieldSquaresUptoCard : Claim7 := { stood := { row := fieldSquaresUptoRow, standIns := [], harness := (true, "523b632f4639905d0d6e26277c6fb31847ad684cc06a7338bec68fac6c5c0b2c"), looks := false }, kinds := [], alts := [], laidByText := true, laidKinds := [.data, .data], laidTests := true, laidLooks := .later }
def FieldSquaresUptoCardSaid : Prop := Claim7.holds Tryd.pinned (.plain (OpenSpec.upto fieldSquaresSpec)) fieldSquaresUptoCard

/-- THE SECOND FORM's CARD OF 'pawllaw01.FieldForm'. -/
def fieldFormUptoCard : Claim7 := { stood := { row := fieldFormUptoRow, standIns := [], harness := (true, "523b632f4639905d0d6e26277c6fb31847ad684cc06a7338bec68fac6c5c0b2c"), looks := false }, kinds := [], alts := [], laidByText := true, laidKinds := [.data], laidTests := true, laidLooks := .later }
def FieldFormUptoCardSaid : Prop := Claim7.holds Tryd.pinned (.plain (OpenSpec.upto fieldFormSpec)) fieldFormUptoCard
end Rows
end Go.Proofs.YtcjdglckbkdheaaDoor
