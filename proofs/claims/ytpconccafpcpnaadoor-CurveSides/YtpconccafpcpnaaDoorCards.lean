/-
  DERIVED. GIVEN WITH THE SEED: THE CARDS: each row of YtpconccafpcpnaaDoorRows.lean that lists a variable, with what it lists TIED to the program's text (the seventh form; the later family's looks); each row that meets fmt, with fmt's text TOLD by the authors' own Lean function (tested against real Go, not proved from fmt's source: count such statements apart). THE CARD IS WHAT COUNTS. Prove the row's statement (the work); the ties are given (YtpconccafpcpnaaDoorTie.lean); close each card by the builder's one call (the guide's Derived/Test/ToyasCard.lean, 'card_holds'). Laid BY PROGRAM, IN A SANDBOX (cutbox-door.mjs). By AI agents, Wed Nov 11 2026. No macro, syntax, notation, axiom, sorry.
-/
import Derived.Test.YtpconccafpcpnaaDoorRows
import GoSem.ClaimSeven
namespace Go.Proofs.YtpconccafpcpnaaDoor
namespace Rows

/-- THE TIED CARD OF 'pawllaw01.FieldAll'. -/
def fieldAllCard : Claim7 := { stood := { row := fieldAllRow, standIns := [], harness := (true, "f9386471847a867c4d53dbdf1c2cea5185d259c6b3c01656bb5f4b38f21e85e9"), looks := false }, kinds := [], alts := [], laidByText := true, laidKinds := [.data, .data], laidTests := true, laidLooks := .later }
def FieldAllCardSaid : Prop := Claim7.holds Tryd.pinned (.plain (OpenSpec.ofChange fieldAllSpec)) fieldAllCard

/-- THE TIED CARD OF 'pawllaw02.CurveScales'. -/
def curveScalesCard : Claim7 := { stood := { row := curveScalesRow, standIns := [], harness := (true, "f9386471847a867c4d53dbdf1c2cea5185d259c6b3c01656bb5f4b38f21e85e9"), looks := false }, kinds := [], alts := [], laidByText := true, laidKinds := [.data], laidTests := true, laidLooks := .later }
def CurveScalesCardSaid : Prop := Claim7.holds Tryd.pinned (.plain (OpenSpec.ofChange curveScalesSpec)) curveScalesCard

/-- THE TIED CARD OF 'pawllaw02.CurvePublics'. -/
def curvePublicsCard : Claim7 := { stood := { row := curvePublicsRow, standIns := [], harness := (true, "f9386471847a867c4d53dbdf1c2cea5185d259c6b3c01656bb5f4b38f21e85e9"), looks := false }, kinds := [], alts := [], laidByText := true, laidKinds := [.data], laidTests := true, laidLooks := .later }
def CurvePublicsCardSaid : Prop := Claim7.holds Tryd.pinned (.plain (OpenSpec.ofChange curvePublicsSpec)) curvePublicsCard

/-- THE TIED CARD OF 'pawllaw02.CurveShareds'. -/
def curveSharedsCard : Claim7 := { stood := { row := curveSharedsRow, standIns := [], harness := (true, "f9386471847a867c4d53dbdf1c2cea5185d259c6b3c01656bb5f4b38f21e85e9"), looks := false }, kinds := [], alts := [], laidByText := true, laidKinds := [.data], laidTests := true, laidLooks := .later }
def CurveSharedsCardSaid : Prop := Claim7.holds Tryd.pinned (.plain (OpenSpec.ofChange curveSharedsSpec)) curveSharedsCard

/-- THE TIED CARD OF 'pawllaw02.CurvePairs'. -/
def curvePairsCard : Claim7 := { stood := { row := curvePairsRow, standIns := [], harness := (true, "f9386471847a867c4d53dbdf1c2cea5185d259c6b3c01656bb5f4b38f21e85e9"), looks := false }, kinds := [], alts := [], laidByText := true, laidKinds := [.data], laidTests := true, laidLooks := .later }
def CurvePairsCardSaid : Prop := Claim7.holds Tryd.pinned (.plain (OpenSpec.ofChange curvePairsSpec)) curvePairsCard

/-- THE TIED CARD OF 'pawllaw02.CurveSides'. -/
def curveSidesCard : Claim7 := { stood := { row := curveSidesRow, standIns := [], harness := (true, "f9386471847a867c4d53dbdf1c2cea5185d259c6b3c01656bb5f4b38f21e85e9"), looks := false }, kinds := [], alts := [], laidByText := true, laidKinds := [.data, .data], laidTests := true, laidLooks := .later }
def CurveSidesCardSaid : Prop := Claim7.holds Tryd.pinned (.plain (OpenSpec.ofChange curveSidesSpec)) curveSidesCard

/-- THE SECOND FORM's CARD OF 'pawllaw01.FieldAll'. -/
def fieldAllUptoCard : Claim7 := { stood := { row := fieldAllUptoRow, standIns := [], harness := (true, "f9386471847a867c4d53dbdf1c2cea5185d259c6b3c01656bb5f4b38f21e85e9"), looks := false }, kinds := [], alts := [], laidByText := true, laidKinds := [.data, .data], laidTests := true, laidLooks := .later }
def FieldAllUptoCardSaid : Prop := Claim7.holds Tryd.pinned (.plain (OpenSpec.upto fieldAllSpec)) fieldAllUptoCard

/-- THE SECOND FORM's CARD OF 'pawllaw02.CurveScales'. -/
def curveScalesUptoCard : Claim7 := { stood := { row := curveScalesUptoRow, standIns := [], harness := (true, "f9386471847a867c4d53dbdf1c2cea5185d259c6b3c01656bb5f4b38f21e85e9"), looks := false }, kinds := [], alts := [], laidByText := true, laidKinds := [.data], laidTests := true, laidLooks := .later }
def CurveScalesUptoCardSaid : Prop := Claim7.holds Tryd.pinned (.plain (OpenSpec.upto curveScalesSpec)) curveScalesUptoCard

/-- THE SECOND FORM's CARD OF 'pawllaw02.CurvePublics'. -/
def curvePublicsUptoCard : Claim7 := { stood := { row := curvePublicsUptoRow, standIns := [], harness := (true, "f9386471847a867c4d53dbdf1c2cea5185d259c6b3c01656bb5f4b38f21e85e9"), looks := false }, kinds := [], alts := [], laidByText := true, laidKinds := [.data], laidTests := true, laidLooks := .later }
def CurvePublicsUptoCardSaid : Prop := Claim7.holds Tryd.pinned (.plain (OpenSpec.upto curvePublicsSpec)) curvePublicsUptoCard

/-- THE SECOND FORM's CARD OF 'pawllaw02.CurveShareds'. -/
def curveSharedsUptoCard : Claim7 := { stood := { row := curveSharedsUptoRow, standIns := [], harness := (true, "f9386471847a867c4d53dbdf1c2cea5185d259c6b3c01656bb5f4b38f21e85e9"), looks := false }, kinds := [], alts := [], laidByText := true, laidKinds := [.data], laidTests := true, laidLooks := .later }
def CurveSharedsUptoCardSaid : Prop := Claim7.holds Tryd.pinned (.plain (OpenSpec.upto curveSharedsSpec)) curveSharedsUptoCard

/-- THE SECOND FORM's CARD OF 'pawllaw02.CurvePairs'. -/
def curvePairsUptoCard : Claim7 := { stood := { row := curvePairsUptoRow, standIns := [], harness := (true, "f9386471847a867c4d53dbdf1c2cea5185d259c6b3c01656bb5f4b38f21e85e9"), looks := false }, kinds := [], alts := [], laidByText := true, laidKinds := [.data], laidTests := true, laidLooks := .later }
def CurvePairsUptoCardSaid : Prop := Claim7.holds Tryd.pinned (.plain (OpenSpec.upto curvePairsSpec)) curvePairsUptoCard

/-- THE SECOND FORM's CARD OF 'pawllaw02.CurveSides'. -/
def curveSidesUptoCard : Claim7 := { stood := { row := curveSidesUptoRow, standIns := [], harness := (true, "f9386471847a867c4d53dbdf1c2cea5185d259c6b3c01656bb5f4b38f21e85e9"), looks := false }, kinds := [], alts := [], laidByText := true, laidKinds := [.data, .data], laidTests := true, laidLooks := .later }
def CurveSidesUptoCardSaid : Prop := Claim7.holds Tryd.pinned (.plain (OpenSpec.upto curveSidesSpec)) curveSidesUptoCard
end Rows
end Go.Proofs.YtpconccafpcpnaaDoor
