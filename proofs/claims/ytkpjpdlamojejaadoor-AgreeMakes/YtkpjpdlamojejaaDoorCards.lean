/-
  DERIVED. GIVEN WITH THE SEED: THE CARDS: each row of YtkpjpdlamojejaaDoorRows.lean that lists a variable, with what it lists TIED to the program's text (the seventh form; the later family's looks); each row that meets fmt, with fmt's text TOLD by the authors' own Lean function (tested against real Go, not proved from fmt's source: count such statements apart). THE CARD IS WHAT COUNTS. Prove the row's statement (the work); the ties are given (YtkpjpdlamojejaaDoorTie.lean); close each card by the builder's one call (the guide's Derived/Test/ToyasCard.lean, 'card_holds'). Laid BY PROGRAM, IN A SANDBOX (cutbox-door.mjs). By AI agents, Wed Nov 11 2026. No macro, syntax, notation, axiom, sorry.
-/
import Derived.Test.YtkpjpdlamojejaaDoorRows
import GoSem.ClaimSeven
namespace Go.Proofs.YtkpjpdlamojejaaDoor
namespace Rows

/-- THE TIED CARD OF 'pawllaw14.AgreeMakes'. -/
def agreeMakesCard : Claim7 := { stood := { row := agreeMakesRow, standIns := [], harness := (true, "efa34d4a9db1bda3513ede97c1280d6789f63c3742d25196de90876fb719c632"), looks := false }, kinds := [], alts := [], laidByText := true, laidKinds := [.data, .data, .data], laidTests := true, laidLooks := .later }
def AgreeMakesCardSaid : Prop := Claim7.holds Tryd.pinned (.plain (OpenSpec.ofChange agreeMakesSpec)) agreeMakesCard

/-- THE SECOND FORM's CARD OF 'pawllaw14.AgreeMakes'. -/
def agreeMakesUptoCard : Claim7 := { stood := { row := agreeMakesUptoRow, standIns := [], harness := (true, "efa34d4a9db1bda3513ede97c1280d6789f63c3742d25196de90876fb719c632"), looks := false }, kinds := [], alts := [], laidByText := true, laidKinds := [.data, .data, .data], laidTests := true, laidLooks := .later }
def AgreeMakesUptoCardSaid : Prop := Claim7.holds Tryd.pinned (.plain (OpenSpec.upto agreeMakesSpec)) agreeMakesUptoCard
end Rows
end Go.Proofs.YtkpjpdlamojejaaDoor
