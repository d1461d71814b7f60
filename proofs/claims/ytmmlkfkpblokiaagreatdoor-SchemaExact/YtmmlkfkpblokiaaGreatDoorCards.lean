/-
  DERIVED. GIVEN WITH THE SEED: THE CARDS: each row of YtmmlkfkpblokiaaGreatDoorRows.lean that lists a variable, with what it lists TIED to the program's text (the seventh form; the later family's looks); each row that meets fmt, with fmt's text TOLD by the authors' own Lean function (tested against real Go, not proved from fmt's source: count such statements apart). THE CARD IS WHAT COUNTS. Prove the row's statement (the work); the ties are given (YtmmlkfkpblokiaaGreatDoorTie.lean); close each card by the builder's one call (the guide's Derived/Test/ToyasCard.lean, 'card_holds'). Laid BY PROGRAM, IN A SANDBOX (cutbox-door.mjs). By AI agents, Wed Nov 11 2026. No macro, syntax, notation, axiom, sorry.
-/
import Derived.Test.YtmmlkfkpblokiaaGreatDoorRows
import GoSem.ClaimSeven
namespace Go.Proofs.YtmmlkfkpblokiaaGreatDoor
namespace Rows

/-- THE TIED CARD OF 'pawllaw08.SchemaChecks'. -/
def schemaChecksCard : Claim7 := { stood := { row := schemaChecksRow, standIns := [], harness := (true, "4d896a241b74ee1c44a72938fb57ebed9673aed9bfaaca657d6b04c71b5ffef4"), looks := true }, kinds := [], alts := [], laidByText := true, laidKinds := [.data, .handle, .pinned], laidTests := true, laidLooks := .later }
def SchemaChecksCardSaid : Prop := Claim7.holds Tryz.pinned (.plain (OpenSpec.ofChange schemaChecksSpec)) schemaChecksCard

/-- THE TIED CARD OF 'pawllaw08.SchemaEncodes'. -/
def schemaEncodesCard : Claim7 := { stood := { row := schemaEncodesRow, standIns := [], harness := (true, "4d896a241b74ee1c44a72938fb57ebed9673aed9bfaaca657d6b04c71b5ffef4"), looks := true }, kinds := [], alts := [], laidByText := true, laidKinds := [.data, .handle, .pinned], laidTests := true, laidLooks := .later }
def SchemaEncodesCardSaid : Prop := Claim7.holds Tryz.pinned (.plain (OpenSpec.ofChange schemaEncodesSpec)) schemaEncodesCard

/-- THE TIED CARD OF 'pawllaw08.SchemaDecodes'. -/
def schemaDecodesCard : Claim7 := { stood := { row := schemaDecodesRow, standIns := [], harness := (true, "4d896a241b74ee1c44a72938fb57ebed9673aed9bfaaca657d6b04c71b5ffef4"), looks := true }, kinds := [], alts := [], laidByText := true, laidKinds := [.data, .handle, .pinned], laidTests := true, laidLooks := .later }
def SchemaDecodesCardSaid : Prop := Claim7.holds Tryz.pinned (.plain (OpenSpec.ofChange schemaDecodesSpec)) schemaDecodesCard

/-- THE TIED CARD OF 'pawllaw08.SchemaExact'. -/
def schemaExactCard : Claim7 := { stood := { row := schemaExactRow, standIns := [], harness := (true, "4d896a241b74ee1c44a72938fb57ebed9673aed9bfaaca657d6b04c71b5ffef4"), looks := true }, kinds := [], alts := [], laidByText := true, laidKinds := [.data, .handle, .pinned], laidTests := true, laidLooks := .later }
def SchemaExactCardSaid : Prop := Claim7.holds Tryz.pinned (.plain (OpenSpec.ofChange schemaExactSpec)) schemaExactCard

/-- THE SECOND FORM's CARD OF 'pawllaw08.SchemaChecks'. -/
def schemaChecksUptoCard : Claim7 := { stood := { row := schemaChecksUptoRow, standIns := [], harness := (true, "4d896a241b74ee1c44a72938fb57ebed9673aed9bfaaca657d6b04c71b5ffef4"), looks := true }, kinds := [], alts := [], laidByText := true, laidKinds := [.data, .handle, .pinned], laidTests := true, laidLooks := .later }
def SchemaChecksUptoCardSaid : Prop := Claim7.holds Tryz.pinned (.plain (OpenSpec.upto schemaChecksSpec)) schemaChecksUptoCard

/-- THE SECOND FORM's CARD OF 'pawllaw08.SchemaEncodes'. -/
def schemaEncodesUptoCard : Claim7 := { stood := { row := schemaEncodesUptoRow, standIns := [], harness := (true, "4d896a241b74ee1c44a72938fb57ebed9673aed9bfaaca657d6b04c71b5ffef4"), looks := true }, kinds := [], alts := [], laidByText := true, laidKinds := [.data, .handle, .pinned], laidTests := true, laidLooks := .later }
def SchemaEncodesUptoCardSaid : Prop := Claim7.holds Tryz.pinned (.plain (OpenSpec.upto schemaEncodesSpec)) schemaEncodesUptoCard

/-- THE SECOND FORM's CARD OF 'pawllaw08.SchemaDecodes'. -/
def schemaDecodesUptoCard : Claim7 := { stood := { row := schemaDecodesUptoRow, standIns := [], harness := (true, "4d896a241b74ee1c44a72938fb57ebed9673aed9bfaaca657d6b04c71b5ffef4"), looks := true }, kinds := [], alts := [], laidByText := true, laidKinds := [.data, .handle, .pinned], laidTests := true, laidLooks := .later }
def SchemaDecodesUptoCardSaid : Prop := Claim7.holds Tryz.pinned (.plain (OpenSpec.upto schemaDecodesSpec)) schemaDecodesUptoCard

/-- THE SECOND FORM's CARD OF 'pawllaw08.SchemaExact'. -/
def schemaExactUptoCard : Claim7 := { stood := { row := schemaExactUptoRow, standIns := [], harness := (true, "4d896a241b74ee1c44a72938fb57ebed9673aed9bfaaca657d6b04c71b5ffef4"), looks := true }, kinds := [], alts := [], laidByText := true, laidKinds := [.data, .handle, .pinned], laidTests := true, laidLooks := .later }
def SchemaExactUptoCardSaid : Prop := Claim7.holds Tryz.pinned (.plain (OpenSpec.upto schemaExactSpec)) schemaExactUptoCard
end Rows
end Go.Proofs.YtmmlkfkpblokiaaGreatDoor
