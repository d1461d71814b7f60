/-
  DERIVED. GIVEN WITH THE SEED: THE CARDS: each row of YtdimjlbnjhopgaaDoorRows.lean that lists a variable, with what it lists TIED to the program's text (the seventh form; the later family's looks); each row that meets fmt, with fmt's text TOLD by the authors' own Lean function (tested against real Go, not proved from fmt's source: count such statements apart). THE CARD IS WHAT COUNTS. Prove the row's statement (the work); the ties are given (YtdimjlbnjhopgaaDoorTie.lean); close each card by the builder's one call (the guide's Derived/Test/ToyasCard.lean, 'card_holds'). Laid BY PROGRAM, IN A SANDBOX (cutbox-door.mjs). By AI agents, Wed Nov 11 2026. No macro, syntax, notation, axiom, sorry.
-/
import Derived.Test.YtdimjlbnjhopgaaDoorRows
import GoSem.ClaimSeven
namespace Go.Proofs.YtdimjlbnjhopgaaDoor
namespace Rows

/-- THE TIED CARD OF 'pawllaw02.CurveVectors'. -/
def curveVectorsCard : Claim7 := { stood := { row := curveVectorsRow, standIns := [], harness := (true, "7f27c6d0559e119183bc98c554f1b69e2e269a3c6f4b27e106f7e4e71b898b6f"), looks := false }, kinds := [], alts := [], laidByText := true, laidKinds := [.data], laidTests := true, laidLooks := .later }
def CurveVectorsCardSaid : Prop := Claim7.holds Tryd.pinned (.plain (OpenSpec.ofChange curveVectorsSpec)) curveVectorsCard

/-- THE TIED CARD OF 'pawllaw02.CurveForms'. -/
def curveFormsCard : Claim7 := { stood := { row := curveFormsRow, standIns := [], harness := (true, "7f27c6d0559e119183bc98c554f1b69e2e269a3c6f4b27e106f7e4e71b898b6f"), looks := false }, kinds := [], alts := [], laidByText := true, laidKinds := [.data], laidTests := true, laidLooks := .later }
def CurveFormsCardSaid : Prop := Claim7.holds Tryd.pinned (.plain (OpenSpec.ofChange curveFormsSpec)) curveFormsCard

/-- THE TIED CARD OF 'pawllaw02.CurveTurns'. -/
def curveTurnsCard : Claim7 := { stood := { row := curveTurnsRow, standIns := [], harness := (true, "7f27c6d0559e119183bc98c554f1b69e2e269a3c6f4b27e106f7e4e71b898b6f"), looks := false }, kinds := [], alts := [], laidByText := true, laidKinds := [.data], laidTests := true, laidLooks := .later }
def CurveTurnsCardSaid : Prop := Claim7.holds Tryd.pinned (.plain (OpenSpec.ofChange curveTurnsSpec)) curveTurnsCard

/-- THE TIED CARD OF 'pawllaw02.CurveAgrees'. -/
def curveAgreesCard : Claim7 := { stood := { row := curveAgreesRow, standIns := [], harness := (true, "7f27c6d0559e119183bc98c554f1b69e2e269a3c6f4b27e106f7e4e71b898b6f"), looks := false }, kinds := [], alts := [], laidByText := true, laidKinds := [.data], laidTests := true, laidLooks := .later }
def CurveAgreesCardSaid : Prop := Claim7.holds Tryd.pinned (.plain (OpenSpec.ofChange curveAgreesSpec)) curveAgreesCard

/-- THE TIED CARD OF 'pawllaw02.CurveMultiples'. -/
def curveMultiplesCard : Claim7 := { stood := { row := curveMultiplesRow, standIns := [], harness := (true, "7f27c6d0559e119183bc98c554f1b69e2e269a3c6f4b27e106f7e4e71b898b6f"), looks := false }, kinds := [], alts := [], laidByText := true, laidKinds := [.data], laidTests := true, laidLooks := .later }
def CurveMultiplesCardSaid : Prop := Claim7.holds Tryd.pinned (.plain (OpenSpec.ofChange curveMultiplesSpec)) curveMultiplesCard

/-- THE TIED CARD OF 'pawllaw02.CurveWeak'. -/
def curveWeakCard : Claim7 := { stood := { row := curveWeakRow, standIns := [], harness := (true, "7f27c6d0559e119183bc98c554f1b69e2e269a3c6f4b27e106f7e4e71b898b6f"), looks := false }, kinds := [], alts := [], laidByText := true, laidKinds := [.data], laidTests := true, laidLooks := .later }
def CurveWeakCardSaid : Prop := Claim7.holds Tryd.pinned (.plain (OpenSpec.ofChange curveWeakSpec)) curveWeakCard

/-- THE SECOND FORM's CARD OF 'pawllaw02.CurveVectors'. -/
def curveVectorsUptoCard : Claim7 := { stood := { row := curveVectorsUptoRow, standIns := [], harness := (true, "7f27c6d0559e119183bc98c554f1b69e2e269a3c6f4b27e106f7e4e71b898b6f"), looks := false }, kinds := [], alts := [], laidByText := true, laidKinds := [.data], laidTests := true, laidLooks := .later }
def CurveVectorsUptoCardSaid : Prop := Claim7.holds Tryd.pinned (.plain (OpenSpec.upto curveVectorsSpec)) curveVectorsUptoCard

/-- THE SECOND FORM's CARD OF 'pawllaw02.CurveForms'. -/
def curveFormsUptoCard : Claim7 := { stood := { row := curveFormsUptoRow, standIns := [], harness := (true, "7f27c6d0559e119183bc98c554f1b69e2e269a3c6f4b27e106f7e4e71b898b6f"), looks := false }, kinds := [], alts := [], laidByText := true, laidKinds := [.data], laidTests := true, laidLooks := .later }
def CurveFormsUptoCardSaid : Prop := Claim7.holds Tryd.pinned (.plain (OpenSpec.upto curveFormsSpec)) curveFormsUptoCard

/-- THE SECOND FORM's CARD OF 'pawllaw02.CurveTurns'. -/
def curveTurnsUptoCard : Claim7 := { stood := { row := curveTurnsUptoRow, standIns := [], harness := (true, "7f27c6d0559e119183bc98c554f1b69e2e269a3c6f4b27e106f7e4e71b898b6f"), looks := false }, kinds := [], alts := [], laidByText := true, laidKinds := [.data], laidTests := true, laidLooks := .later }
def CurveTurnsUptoCardSaid : Prop := Claim7.holds Tryd.pinned (.plain (OpenSpec.upto curveTurnsSpec)) curveTurnsUptoCard

/-- THE SECOND FORM's CARD OF 'pawllaw02.CurveAgrees'. -/
def curveAgreesUptoCard : Claim7 := { stood := { row := curveAgreesUptoRow, standIns := [], harness := (true, "7f27c6d0559e119183bc98c554f1b69e2e269a3c6f4b27e106f7e4e71b898b6f"), looks := false }, kinds := [], alts := [], laidByText := true, laidKinds := [.data], laidTests := true, laidLooks := .later }
def CurveAgreesUptoCardSaid : Prop := Claim7.holds Tryd.pinned (.plain (OpenSpec.upto curveAgreesSpec)) curveAgreesUptoCard

/-- THE SECOND FORM's CARD OF 'pawllaw02.CurveMultiples'. -/
def curveMultiplesUptoCard : Claim7 := { stood := { row := curveMultiplesUptoRow, standIns := [], harness := (true, "7f27c6d0559e119183bc98c554f1b69e2e269a3c6f4b27e106f7e4e71b898b6f"), looks := false }, kinds := [], alts := [], laidByText := true, laidKinds := [.data], laidTests := true, laidLooks := .later }
def CurveMultiplesUptoCardSaid : Prop := Claim7.holds Tryd.pinned (.plain (OpenSpec.upto curveMultiplesSpec)) curveMultiplesUptoCard

/-- THE SECOND FORM's CARD OF 'pawllaw02.CurveWeak'. -/
def curveWeakUptoCard : Claim7 := { stood := { row := curveWeakUptoRow, standIns := [], harness := (true, "7f27c6d0559e119183bc98c554f1b69e2e269a3c6f4b27e106f7e4e71b898b6f"), looks := false }, kinds := [], alts := [], laidByText := true, laidKinds := [.data], laidTests := true, laidLooks := .later }
def CurveWeakUptoCardSaid : Prop := Claim7.holds Tryd.pinned (.plain (OpenSpec.upto curveWeakSpec)) curveWeakUptoCard
end Rows
end Go.Proofs.YtdimjlbnjhopgaaDoor
