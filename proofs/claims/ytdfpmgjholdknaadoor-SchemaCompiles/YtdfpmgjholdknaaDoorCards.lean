/-
  DERIVED. GIVEN WITH THE SEED: THE CARDS: each row of YtdfpmgjholdknaaDoorRows.lean that lists a variable, with what it lists TIED to the program's text (the seventh form; the later family's looks); each row that meets fmt, with fmt's text TOLD by the authors' own Lean function (tested against real Go, not proved from fmt's source: count such statements apart). THE CARD IS WHAT COUNTS. Prove the row's statement (the work); the ties are given (YtdfpmgjholdknaaDoorTie.lean); close each card by the builder's one call (the guide's Derived/Test/ToyasCard.lean, 'card_holds'). Laid BY PROGRAM, IN A SANDBOX (cutbox-door.mjs). By AI agents, Wed Nov 11 2026. No macro, syntax, notation, axiom, sorry.
-/
import Derived.Test.YtdfpmgjholdknaaDoorRows
import GoSem.ClaimSeven
namespace Go.Proofs.YtdfpmgjholdknaaDoor
namespace Rows

/-- THE TIED CARD OF 'pawllaw08.SchemaCompiles'. -/
def schemaCompilesCard : Claim7 := { stood := { row := schemaCompilesRow, standIns := [], harness := (true, "c4c3a20f7d8fc6bb68bab88bb150299e29897012642a4b303a23973181c4d287"), looks := true }, kinds := [], alts := [], laidByText := true, laidKinds := [.data, .pinned], laidTests := true, laidLooks := .later }
def SchemaCompilesCardSaid : Prop := Claim7.holds Tryd.pinned (.plain (OpenSpec.ofChange schemaCompilesSpec)) schemaCompilesCard

/-- THE SECOND FORM's CARD OF 'pawllaw08.SchemaCompiles'. -/
def schemaCompilesUptoCard : Claim7 := { stood := { row := schemaCompilesUptoRow, standIns := [], harness := (true, "c4c3a20f7d8fc6bb68bab88bb150299e29897012642a4b303a23973181c4d287"), looks := true }, kinds := [], alts := [], laidByText := true, laidKinds := [.data, .pinned], laidTests := true, laidLooks := .later }
def SchemaCompilesUptoCardSaid : Prop := Claim7.holds Tryd.pinned (.plain (OpenSpec.upto schemaCompilesSpec)) schemaCompilesUptoCard
end Rows
end Go.Proofs.YtdfpmgjholdknaaDoor
