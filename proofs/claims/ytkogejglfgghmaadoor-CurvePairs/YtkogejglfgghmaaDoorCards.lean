/-
  DERIVED. GIVEN WITH THE SEED: THE CARDS: each row of YtkogejglfgghmaaDoorRows.lean that lists a variable, with what it lists TIED to the program's text (the seventh form; the later family's looks); each row that meets fmt, with fmt's text TOLD by the authors' own Lean function (tested against real Go, not proved from fmt's source: count such statements apart). THE CARD IS WHAT COUNTS. Prove the row's statement (the work); the ties are given (YtkogejglfgghmaaDoorTie.lean); close each card by the builder's one call (the guide's Derived/Test/ToyasCard.lean, 'card_holds'). Laid BY PROGRAM, IN A SANDBOX (cutbox-door.mjs). By AI agents, Wed Nov 11 2026. No macro, syntax, notation, axiom, sorry.
-/
import Derived.Test.YtkogejglfgghmaaDoorRows
import GoSem.ClaimSeven
namespace Go.Proofs.YtkogejglfgghmaaDoor
namespace Rows

/-- THE TIED CARD OF 'pawllaw01.FieldAll'. -/
def fieldAllCard : Claim7 := { stood := { row := fieldAllRow, standIns := [], harness := (true, "ae5c551a9cd41dc6241045c254f52580ee3243467bdd36e44fbc8e0cbd68cb58"), looks := false }, kinds := [], alts := [], laidByText := true, laidKinds := [.data, .data], laidTests := true, laidLooks := .later }
def FieldAllCardSaid : Prop := Claim7.holds Tryd.pinned (.plain (OpenSpec.ofChange fieldAllSpec)) fieldAllCard

/-- THE TIED CARD OF 'pawllaw02.CurveScales'. -/
def curveScalesCard : Claim7 := { stood := { row := curveScalesRow, standIns := [], harness := (true, "ae5c551a9cd41dc6241045c254f52580ee3243467bdd36e44fbc8e0cbd68cb58"), looks := false }, kinds := [], alts := [], laidByText := true, laidKinds := [.data], laidTests := true, laidLooks := .later }
def CurveScalesCardSaid : Prop := Claim7.holds Tryd.pinned (.plain (OpenSpec.ofChange curveScalesSpec)) curveScalesCard

/-- THE TIED CARD OF 'pawllaw02.CurvePublics'. -/
def curvePublicsCard : Claim7 := { stood := { row := curvePublicsRow, standIns := [], harness := (true, "ae5c551a9cd41dc6241045c254f52580ee3243467bdd36e44fbc8e0cbd68cb58"), looks := false }, kinds := [], alts := [], laidByText := true, laidKinds := [.data], laidTests := true, laidLooks := .later }
def CurvePublicsCardSaid : Prop := Claim7.holds Tryd.pinned (.plain (OpenSpec.ofChange curvePublicsSpec)) curvePublicsCard

/-- THE TIED CARD OF 'pawllaw02.CurveShareds'. -/
def curveSharedsCard : Claim7 := { stood := { row := curveSharedsRow, standIns := [], harness := (true, "ae5c551a9cd41dc6241045c254f52580ee3243467bdd36e44fbc8e0cbd68cb58"), looks := false }, kinds := [], alts := [], laidByText := true, laidKinds := [.data], laidTests := true, laidLooks := .later }
def CurveSharedsCardSaid : Prop := Claim7.holds Tryd.pinned (.plain (OpenSpec.ofChange curveSharedsSpec)) curveSharedsCard

/-- THE TIED CARD OF 'pawllaw02.CurvePairs'. -/
def curvePairsCard : Claim7 := { stood := { row := curvePairsRow, standIns := [], harness := (true, "ae5c551a9cd41dc6241045c254f52580ee3243467bdd36e44fbc8e0cbd68cb58"), looks := false }, kinds := [], alts := [], laidByText := true, laidKinds := [.data], laidTests := true, laidLooks := .later }
def CurvePairsCardSaid : Prop := Claim7.holds Tryd.pinned (.plain (OpenSpec.ofChange curvePairsSpec)) curvePairsCard

/-- THE TIED CARD OF 'pawllaw02.CurveOns'. -/
def curveOnsCard : Claim7 := { stood := { row := curveOnsRow, standIns := [], harness := (true, "ae5c551a9cd41dc6241045c254f52580ee3243467bdd36e44fbc8e0cbd68cb58"), looks := false }, kinds := [], alts := [], laidByText := true, laidKinds := [.data, .data], laidTests := true, laidLooks := .later }
def CurveOnsCardSaid : Prop := Claim7.holds Tryd.pinned (.plain (OpenSpec.ofChange curveOnsSpec)) curveOnsCard

/-- THE SECOND FORM's CARD OF 'pawllaw01.FieldAll'. -/
def fieldAllUptoCard : Claim7 := { stood := { row := fieldAllUptoRow, standIns := [], harness := (true, "ae5c551a9cd41dc6241045c254f52580ee3243467bdd36e44fbc8e0cbd68cb58"), looks := false }, kinds := [], alts := [], laidByText := true, laidKinds := [.data, .data], laidTests := true, laidLooks := .later }
def FieldAllUptoCardSaid : Prop := Claim7.holds Tryd.pinned (.plain (OpenSpec.upto fieldAllSpec)) fieldAllUptoCard

/-- THE SECOND FORM's CARD OF 'pawllaw02.CurveScales'. -/
def curveScalesUptoCard : Claim7 := { stood := { row := curveScalesUptoRow, standIns := [], harness := (true, "ae5c551a9cd41dc6241045c254f52580ee3243467bdd36e44fbc8e0cbd68cb58"), looks := false }, kinds := [], alts := [], laidByText := true, laidKinds := [.data], laidTests := true, laidLooks := .later }
def CurveScalesUptoCardSaid : Prop := Claim7.holds Tryd.pinned (.plain (OpenSpec.upto curveScalesSpec)) curveScalesUptoCard

/-- THE SECOND FORM's CARD OF 'pawllaw02.CurvePublics'. -/
def curvePublicsUptoCard : Claim7 := { stood := { row := curvePublicsUptoRow, standIns := [], harness := (true, "ae5c551a9cd41dc6241045c254f52580ee3243467bdd36e44fbc8e0cbd68cb58"), looks := false }, kinds := [], alts := [], laidByText := true, laidKinds := [.data], laidTests := true, laidLooks := .later }
def CurvePublicsUptoCardSaid : Prop := Claim7.holds Tryd.pinned (.plain (OpenSpec.upto curvePublicsSpec)) curvePublicsUptoCard

/-- THE SECOND FORM's CARD OF 'pawllaw02.CurveShareds'. -/
def curveSharedsUptoCard : Claim7 := { stood := { row := curveSharedsUptoRow, standIns := [], harness := (true, "ae5c551a9cd41dc6241045c254f52580ee3243467bdd36e44fbc8e0cbd68cb58"), looks := false }, kinds := [], alts := [], laidByText := true, laidKinds := [.data], laidTests := true, laidLooks := .later }
def CurveSharedsUptoCardSaid : Prop := Claim7.holds Tryd.pinned (.plain (OpenSpec.upto curveSharedsSpec)) curveSharedsUptoCard

/-- THE SECOND FORM's CARD OF 'pawllaw02.CurvePairs'. -/
def curvePairsUptoCard : Claim7 := { stood := { row := curvePairsUptoRow, standIns := [], harness := (true, "ae5c551a9cd41dc6241045c254f52580ee3243467bdd36e44fbc8e0cbd68cb58"), looks := false }, kinds := [], alts := [], laidByText := true, laidKinds := [.data], laidTests := true, laidLooks := .later }
def CurvePairsUptoCardSaid : Prop := Claim7.holds Tryd.pinned (.plain (OpenSpec.upto curvePairsSpec)) curvePairsUptoCard

/-- THE SECOND FORM's CARD OF 'pawllaw02.CurveOns'. -/
def curveOnsUptoCard : Claim7 := { stood := { row := curveOnsUptoRow, standIns := [], harness := (true, "ae5c551a9cd41dc6241045c254f52580ee3243467bdd36e44fbc8e0cbd68cb58"), looks := false }, kinds := [], alts := [], laidByText := true, laidKinds := [.data, .data], laidTests := true, laidLooks := .later }
def CurveOnsUptoCardSaid : Prop := Claim7.holds Tryd.pinned (.plain (OpenSpec.upto curveOnsSpec)) curveOnsUptoCard
end Rows
end Go.Proofs.YtkogejglfgghmaaDoor
