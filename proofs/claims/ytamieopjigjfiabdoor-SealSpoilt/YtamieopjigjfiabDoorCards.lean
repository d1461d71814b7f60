/-
  DERIVED. GIVEN WITH THE SEED: THE CARDS: each row of YtamieopjigjfiabDoorRows.lean that lists a variable, with what it lists TIED to the program's text (the seventh form; the later family's looks); each row that meets fmt, with fmt's text TOLD by the authors' own Lean function (tested against real Go, not proved from fmt's source: count such statements apart). THE CARD IS WHAT COUNTS. Prove the row's statement (the work); the ties are given (YtamieopjigjfiabDoorTie.lean); close each card by the builder's one call (the guide's Derived/Test/ToyasCard.lean, 'card_holds'). Laid BY PROGRAM, IN A SANDBOX (cutbox-door.mjs). By AI agents, Wed Nov 11 2026. No macro, syntax, notation, axiom, sorry.
-/
import Derived.Test.YtamieopjigjfiabDoorRows
import GoSem.ClaimSeven
namespace Go.Proofs.YtamieopjigjfiabDoor
namespace Rows

/-- THE TIED CARD OF 'pawllaw06.SealSpoilt'. -/
def sealSpoiltCard : Claim7 := { stood := { row := sealSpoiltRow, standIns := [], harness := (true, "b48bb1822129525d2c631bd44296bfe2a4daeb55b672320ab4327e84c00e8218"), looks := false }, kinds := [], alts := [], laidByText := true, laidKinds := [.data, .data], laidTests := true, laidLooks := .later }
def SealSpoiltCardSaid : Prop := Claim7.holds Tryd.pinned (.plain (OpenSpec.ofChange sealSpoiltSpec)) sealSpoiltCard

/-- THE TIED CARD OF 'pawllaw06.SealBits'. -/
def sealBitsCard : Claim7 := { stood := { row := sealBitsRow, standIns := [], harness := (true, "b48bb1822129525d2c631bd44296bfe2a4daeb55b672320ab4327e84c00e8218"), looks := false }, kinds := [], alts := [], laidByText := true, laidKinds := [.data, .data], laidTests := true, laidLooks := .later }
def SealBitsCardSaid : Prop := Claim7.holds Tryd.pinned (.plain (OpenSpec.ofChange sealBitsSpec)) sealBitsCard

/-- THE TIED CARD OF 'pawllaw06.SealLong'. -/
def sealLongCard : Claim7 := { stood := { row := sealLongRow, standIns := [], harness := (true, "b48bb1822129525d2c631bd44296bfe2a4daeb55b672320ab4327e84c00e8218"), looks := false }, kinds := [], alts := [], laidByText := true, laidKinds := [.data, .data], laidTests := true, laidLooks := .later }
def SealLongCardSaid : Prop := Claim7.holds Tryd.pinned (.plain (OpenSpec.ofChange sealLongSpec)) sealLongCard

/-- THE SECOND FORM's CARD OF 'pawllaw06.SealSpoilt'. -/
def sealSpoiltUptoCard : Claim7 := { stood := { row := sealSpoiltUptoRow, standIns := [], harness := (true, "b48bb1822129525d2c631bd44296bfe2a4daeb55b672320ab4327e84c00e8218"), looks := false }, kinds := [], alts := [], laidByText := true, laidKinds := [.data, .data], laidTests := true, laidLooks := .later }
def SealSpoiltUptoCardSaid : Prop := Claim7.holds Tryd.pinned (.plain (OpenSpec.upto sealSpoiltSpec)) sealSpoiltUptoCard

/-- THE SECOND FORM's CARD OF 'pawllaw06.SealBits'. -/
def sealBitsUptoCard : Claim7 := { stood := { row := sealBitsUptoRow, standIns := [], harness := (true, "b48bb1822129525d2c631bd44296bfe2a4daeb55b672320ab4327e84c00e8218"), looks := false }, kinds := [], alts := [], laidByText := true, laidKinds := [.data, .data], laidTests := true, laidLooks := .later }
def SealBitsUptoCardSaid : Prop := Claim7.holds Tryd.pinned (.plain (OpenSpec.upto sealBitsSpec)) sealBitsUptoCard

/-- THE SECOND FORM's CARD OF 'pawllaw06.SealLong'. -/
def sealLongUptoCard : Claim7 := { stood := { row := sealLongUptoRow, standIns := [], harness := (true, "b48bb1822129525d2c631bd44296bfe2a4daeb55b672320ab4327e84c00e8218"), looks := false }, kinds := [], alts := [], laidByText := true, laidKinds := [.data, .data], laidTests := true, laidLooks := .later }
def SealLongUptoCardSaid : Prop := Claim7.holds Tryd.pinned (.plain (OpenSpec.upto sealLongSpec)) sealLongUptoCard
end Rows
end Go.Proofs.YtamieopjigjfiabDoor
