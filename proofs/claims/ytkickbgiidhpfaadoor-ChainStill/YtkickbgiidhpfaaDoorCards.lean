/-
  DERIVED. GIVEN WITH THE SEED: THE CARDS: each row of YtkickbgiidhpfaaDoorRows.lean that lists a variable, with what it lists TIED to the program's text (the seventh form; the later family's looks); each row that meets fmt, with fmt's text TOLD by the authors' own Lean function (tested against real Go, not proved from fmt's source: count such statements apart). THE CARD IS WHAT COUNTS. Prove the row's statement (the work); the ties are given (YtkickbgiidhpfaaDoorTie.lean); close each card by the builder's one call (the guide's Derived/Test/ToyasCard.lean, 'card_holds'). Laid BY PROGRAM, IN A SANDBOX (cutbox-door.mjs). By AI agents, Wed Nov 11 2026. No macro, syntax, notation, axiom, sorry.
-/
import Derived.Test.YtkickbgiidhpfaaDoorRows
import GoSem.ClaimSeven
namespace Go.Proofs.YtkickbgiidhpfaaDoor
namespace Rows

/-- THE TIED CARD OF 'pawllaw11.ChainStill'. -/
def chainStillCard : Claim7 := { stood := { row := chainStillRow, standIns := [], harness := (true, "3fe77460173bbbabf9cea1bd6683bded436bb71bccd5ead4882895e0349721a0"), looks := false }, kinds := [], alts := [], laidByText := true, laidKinds := [.data, .data], laidTests := true, laidLooks := .later }
def ChainStillCardSaid : Prop := Claim7.holds Tryd.pinned (.plain (OpenSpec.ofChange chainStillSpec)) chainStillCard

/-- THE SECOND FORM's CARD OF 'pawllaw11.ChainStill'. -/
def chainStillUptoCard : Claim7 := { stood := { row := chainStillUptoRow, standIns := [], harness := (true, "3fe77460173bbbabf9cea1bd6683bded436bb71bccd5ead4882895e0349721a0"), looks := false }, kinds := [], alts := [], laidByText := true, laidKinds := [.data, .data], laidTests := true, laidLooks := .later }
def ChainStillUptoCardSaid : Prop := Claim7.holds Tryd.pinned (.plain (OpenSpec.upto chainStillSpec)) chainStillUptoCard
end Rows
end Go.Proofs.YtkickbgiidhpfaaDoor
