/-
  DERIVED. GIVEN WITH THE SEED: THE CARDS: each row of YtalgcjkiajojoaaGreatDoorRows.lean that lists a variable, with what it lists TIED to the program's text (the seventh form; the later family's looks); each row that meets fmt, with fmt's text TOLD by the authors' own Lean function (tested against real Go, not proved from fmt's source: count such statements apart). THE CARD IS WHAT COUNTS. Prove the row's statement (the work); the ties are given (YtalgcjkiajojoaaGreatDoorTie.lean); close each card by the builder's one call (the guide's Derived/Test/ToyasCard.lean, 'card_holds'). Laid BY PROGRAM, IN A SANDBOX (cutbox-door.mjs). By AI agents, Wed Nov 11 2026. No macro, syntax, notation, axiom, sorry.
-/
import Derived.Test.YtalgcjkiajojoaaGreatDoorRows
import GoSem.ClaimSeven
namespace Go.Proofs.YtalgcjkiajojoaaGreatDoor
namespace Rows

/-- THE TIED CARD OF 'pawllaw08.SchemaPlaces'. -/
def schemaPlacesCard : Claim7 := { stood := { row := schemaPlacesRow, standIns := [], harness := (true, "053c6836f8d85a574c5806b6a2df6cb7782b3f7cd03ff81c63896303737fd882"), looks := true }, kinds := [], alts := [], laidByText := true, laidKinds := [.data, .handle, .pinned], laidTests := true, laidLooks := .later }
def SchemaPlacesCardSaid : Prop := Claim7.holds Tryz.pinned (.plain (OpenSpec.ofChange schemaPlacesSpec)) schemaPlacesCard

/-- THE TIED CARD OF 'pawllaw08.SchemaReasons'. -/
def schemaReasonsCard : Claim7 := { stood := { row := schemaReasonsRow, standIns := [], harness := (true, "053c6836f8d85a574c5806b6a2df6cb7782b3f7cd03ff81c63896303737fd882"), looks := true }, kinds := [], alts := [], laidByText := true, laidKinds := [.data, .pinned], laidTests := true, laidLooks := .later }
def SchemaReasonsCardSaid : Prop := Claim7.holds Tryz.pinned (.plain (OpenSpec.ofChange schemaReasonsSpec)) schemaReasonsCard

/-- THE SECOND FORM's CARD OF 'pawllaw08.SchemaPlaces'. -/
def schemaPlacesUptoCard : Claim7 := { stood := { row := schemaPlacesUptoRow, standIns := [], harness := (true, "053c6836f8d85a574c5806b6a2df6cb7782b3f7cd03ff81c63896303737fd882"), looks := true }, kinds := [], alts := [], laidByText := true, laidKinds := [.data, .handle, .pinned], laidTests := true, laidLooks := .later }
def SchemaPlacesUptoCardSaid : Prop := Claim7.holds Tryz.pinned (.plain (OpenSpec.upto schemaPlacesSpec)) schemaPlacesUptoCard

/-- THE SECOND FORM's CARD OF 'pawllaw08.SchemaReasons'. -/
def schemaReasonsUptoCard : Claim7 := { stood := { row := schemaReasonsUptoRow, standIns := [], harness := (true, "053c6836f8d85a574c5806b6a2df6cb7782b3f7cd03ff81c63896303737fd882"), looks := true }, kinds := [], alts := [], laidByText := true, laidKinds := [.data, .pinned], laidTests := true, laidLooks := .later }
def SchemaReasonsUptoCardSaid : Prop := Claim7.holds Tryz.pinned (.plain (OpenSpec.upto schemaReasonsSpec)) schemaReasonsUptoCard
end Rows
end Go.Proofs.YtalgcjkiajojoaaGreatDoor
