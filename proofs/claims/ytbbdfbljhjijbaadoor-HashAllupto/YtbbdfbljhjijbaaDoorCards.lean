/-
  DERIVED. GIVEN WITH THE SEED: THE CARDS: each row of YtbbdfbljhjijbaaDoorRows.lean that lists a variable, with what it lists TIED to the program's text (the seventh form; the later family's looks); each row that meets fmt, with fmt's text TOLD by the authors' own Lean function (tested against real Go, not proved from fmt's source: count such statements apart). THE CARD IS WHAT COUNTS. Prove the row's statement (the work); the ties are given (YtbbdfbljhjijbaaDoorTie.lean); close each card by the builder's one call (the guide's Derived/Test/ToyasCard.lean, 'card_holds'). Laid BY PROGRAM, IN A SANDBOX (cutbox-door.mjs). By AI agents, Wed Nov 11 2026. No macro, syntax, notation, axiom, sorry.
-/
import Derived.Test.YtbbdfbljhjijbaaDoorRows
import GoSem.ClaimSeven
namespace Go.Proofs.YtbbdfbljhjijbaaDoor
namespace Rows

/-- THE TIED CARD OF 'pawllaw03.HashBlocks'. -/
def hashBlocksCard : Claim7 := { stood := { row := hashBlocksRow, standIns := [], harness := (true, "30828fa43ea2d380beacc4d1080d3e6e4b2f3bb3106f09d94f2daef1b8a834c3"), looks := false }, kinds := [], alts := [], laidByText := true, laidKinds := [.data], laidTests := true, laidLooks := .later }
def HashBlocksCardSaid : Prop := Claim7.holds Tryd.pinned (.plain (OpenSpec.ofChange hashBlocksSpec)) hashBlocksCard

/-- THE TIED CARD OF 'pawllaw03.HashSums'. -/
def hashSumsCard : Claim7 := { stood := { row := hashSumsRow, standIns := [], harness := (true, "30828fa43ea2d380beacc4d1080d3e6e4b2f3bb3106f09d94f2daef1b8a834c3"), looks := false }, kinds := [], alts := [], laidByText := true, laidKinds := [.data, .data], laidTests := true, laidLooks := .later }
def HashSumsCardSaid : Prop := Claim7.holds Tryd.pinned (.plain (OpenSpec.ofChange hashSumsSpec)) hashSumsCard

/-- THE TIED CARD OF 'pawllaw03.HashFolds'. -/
def hashFoldsCard : Claim7 := { stood := { row := hashFoldsRow, standIns := [], harness := (true, "30828fa43ea2d380beacc4d1080d3e6e4b2f3bb3106f09d94f2daef1b8a834c3"), looks := false }, kinds := [], alts := [], laidByText := true, laidKinds := [.data, .data], laidTests := true, laidLooks := .later }
def HashFoldsCardSaid : Prop := Claim7.holds Tryd.pinned (.plain (OpenSpec.ofChange hashFoldsSpec)) hashFoldsCard

/-- THE TIED CARD OF 'pawllaw03.HashPieces'. -/
def hashPiecesCard : Claim7 := { stood := { row := hashPiecesRow, standIns := [], harness := (true, "30828fa43ea2d380beacc4d1080d3e6e4b2f3bb3106f09d94f2daef1b8a834c3"), looks := false }, kinds := [], alts := [], laidByText := true, laidKinds := [.data, .data], laidTests := true, laidLooks := .later }
def HashPiecesCardSaid : Prop := Claim7.holds Tryd.pinned (.plain (OpenSpec.ofChange hashPiecesSpec)) hashPiecesCard

/-- THE TIED CARD OF 'pawllaw03.HashAll'. -/
def hashAllCard : Claim7 := { stood := { row := hashAllRow, standIns := [], harness := (true, "30828fa43ea2d380beacc4d1080d3e6e4b2f3bb3106f09d94f2daef1b8a834c3"), looks := false }, kinds := [], alts := [], laidByText := true, laidKinds := [.data, .data], laidTests := true, laidLooks := .later }
def HashAllCardSaid : Prop := Claim7.holds Tryd.pinned (.plain (OpenSpec.ofChange hashAllSpec)) hashAllCard

/-- THE SECOND FORM's CARD OF 'pawllaw03.HashBlocks'. -/
def hashBlocksUptoCard : Claim7 := { stood := { row := hashBlocksUptoRow, standIns := [], harness := (true, "30828fa43ea2d380beacc4d1080d3e6e4b2f3bb3106f09d94f2daef1b8a834c3"), looks := false }, kinds := [], alts := [], laidByText := true, laidKinds := [.data], laidTests := true, laidLooks := .later }
def HashBlocksUptoCardSaid : Prop := Claim7.holds Tryd.pinned (.plain (OpenSpec.upto hashBlocksSpec)) hashBlocksUptoCard

/-- THE SECOND FORM's CARD OF 'pawllaw03.HashSums'. -/
def hashSumsUptoCard : Claim7 := { stood := { row := hashSumsUptoRow, standIns := [], harness := (true, "30828fa43ea2d380beacc4d1080d3e6e4b2f3bb3106f09d94f2daef1b8a834c3"), looks := false }, kinds := [], alts := [], laidByText := true, laidKinds := [.data, .data], laidTests := true, laidLooks := .later }
def HashSumsUptoCardSaid : Prop := Claim7.holds Tryd.pinned (.plain (OpenSpec.upto hashSumsSpec)) hashSumsUptoCard

/-- THE SECOND FORM's CARD OF 'pawllaw03.HashFolds'. -/
def hashFoldsUptoCard : Claim7 := { stood := { row := hashFoldsUptoRow, standIns := [], harness := (true, "30828fa43ea2d380beacc4d1080d3e6e4b2f3bb3106f09d94f2daef1b8a834c3"), looks := false }, kinds := [], alts := [], laidByText := true, laidKinds := [.data, .data], laidTests := true, laidLooks := .later }
def HashFoldsUptoCardSaid : Prop := Claim7.holds Tryd.pinned (.plain (OpenSpec.upto hashFoldsSpec)) hashFoldsUptoCard

/-- THE SECOND FORM's CARD OF 'pawllaw03.HashPieces'. -/
def hashPiecesUptoCard : Claim7 := { stood := { row := hashPiecesUptoRow, standIns := [], harness := (true, "30828fa43ea2d380beacc4d1080d3e6e4b2f3bb3106f09d94f2daef1b8a834c3"), looks := false }, kinds := [], alts := [], laidByText := true, laidKinds := [.data, .data], laidTests := true, laidLooks := .later }
def HashPiecesUptoCardSaid : Prop := Claim7.holds Tryd.pinned (.plain (OpenSpec.upto hashPiecesSpec)) hashPiecesUptoCard

/-- THE SECOND FORM's CARD OF 'pawllaw03.HashAll'. -/
def hashAllUptoCard : Claim7 := { stood := { row := hashAllUptoRow, standIns := [], harness := (true, "30828fa43ea2d380beacc4d1080d3e6e4b2f3bb3106f09d94f2daef1b8a834c3"), looks := false }, kinds := [], alts := [], laidByText := true, laidKinds := [.data, .data], laidTests := true, laidLooks := .later }
def HashAllUptoCardSaid : Prop := Claim7.holds Tryd.pinned (.plain (OpenSpec.upto hashAllSpec)) hashAllUptoCard
end Rows
end Go.Proofs.YtbbdfbljhjijbaaDoor
