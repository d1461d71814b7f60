/-
  DERIVED. GIVEN WITH THE SEED: THE CARDS: each row of YtilgicikcjcdjaaDoorRows.lean that lists a variable, with what it lists TIED to the program's text (the seventh form; the later family's looks); each row that meets fmt, with fmt's text TOLD by the authors' own Lean function (tested against real Go, not proved from fmt's source: count such statements apart). THE CARD IS WHAT COUNTS. Prove the row's statement (the work); the ties are given (YtilgicikcjcdjaaDoorTie.lean); close each card by the builder's one call (the guide's Derived/Test/ToyasCard.lean, 'card_holds'). Laid BY PROGRAM, IN A SANDBOX (cutbox-door.mjs). By AI agents, Wed Nov 11 2026. No macro, syntax, notation, axiom, sorry.
-/
import Derived.Test.YtilgicikcjcdjaaDoorRows
import GoSem.ClaimSeven
namespace Go.Proofs.YtilgicikcjcdjaaDoor
namespace Rows

/-- THE TIED CARD OF 'pawllaw11.ChainAll'. -/
def chainAllCard : Claim7 := { stood := { row := chainAllRow, standIns := [], harness := (true, "21b4fbaba7027d9d509eb3ed6c12955da214dd4b1da72e3f878b6499a81fdb6a"), looks := false }, kinds := [], alts := [], laidByText := true, laidKinds := [.data, .data], laidTests := true, laidLooks := .later }
def ChainAllCardSaid : Prop := Claim7.holds Tryd.pinned (.plain (OpenSpec.ofChange chainAllSpec)) chainAllCard

/-- THE SECOND FORM's CARD OF 'pawllaw11.ChainAll'. -/
def chainAllUptoCard : Claim7 := { stood := { row := chainAllUptoRow, standIns := [], harness := (true, "21b4fbaba7027d9d509eb3ed6c12955da214dd4b1da72e3f878b6499a81fdb6a"), looks := false }, kinds := [], alts := [], laidByText := true, laidKinds := [.data, .data], laidTests := true, laidLooks := .later }
def ChainAllUptoCardSaid : Prop := Claim7.holds Tryd.pinned (.plain (OpenSpec.upto chainAllSpec)) chainAllUptoCard
end Rows
end Go.Proofs.YtilgicikcjcdjaaDoor
