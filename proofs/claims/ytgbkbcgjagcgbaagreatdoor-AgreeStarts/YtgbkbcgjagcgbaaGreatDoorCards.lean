/-
  DERIVED. GIVEN WITH THE SEED: THE CARDS: each row of YtgbkbcgjagcgbaaGreatDoorRows.lean that lists a variable, with what it lists TIED to the program's text (the seventh form; the later family's looks); each row that meets fmt, with fmt's text TOLD by the authors' own Lean function (tested against real Go, not proved from fmt's source: count such statements apart). THE CARD IS WHAT COUNTS. Prove the row's statement (the work); the ties are given (YtgbkbcgjagcgbaaGreatDoorTie.lean); close each card by the builder's one call (the guide's Derived/Test/ToyasCard.lean, 'card_holds'). Laid BY PROGRAM, IN A SANDBOX (cutbox-door.mjs). By AI agents, Wed Nov 11 2026. No macro, syntax, notation, axiom, sorry.
-/
import Derived.Test.YtgbkbcgjagcgbaaGreatDoorRows
import GoSem.ClaimSeven
namespace Go.Proofs.YtgbkbcgjagcgbaaGreatDoor
namespace Rows

/-- THE TIED CARD OF 'pawllaw14.AgreeStarts'. -/
def agreeStartsCard : Claim7 := { stood := { row := agreeStartsRow, standIns := [], harness := (true, "b9113d9a07aee3dcc8571ffc9a0e0f84b14f2724ad98b79f36e0a145197fbf40"), looks := false }, kinds := [], alts := [], laidByText := true, laidKinds := [.data, .data, .data], laidTests := true, laidLooks := .later }
def AgreeStartsCardSaid : Prop := Claim7.holds Tryz.pinned (.plain (OpenSpec.ofChange agreeStartsSpec)) agreeStartsCard

/-- THE TIED CARD OF 'pawllaw14.AgreeAnswers'. -/
def agreeAnswersCard : Claim7 := { stood := { row := agreeAnswersRow, standIns := [], harness := (true, "b9113d9a07aee3dcc8571ffc9a0e0f84b14f2724ad98b79f36e0a145197fbf40"), looks := false }, kinds := [], alts := [], laidByText := true, laidKinds := [.data, .data, .data], laidTests := true, laidLooks := .later }
def AgreeAnswersCardSaid : Prop := Claim7.holds Tryz.pinned (.plain (OpenSpec.ofChange agreeAnswersSpec)) agreeAnswersCard

/-- THE SECOND FORM's CARD OF 'pawllaw14.AgreeStarts'. -/
def agreeStartsUptoCard : Claim7 := { stood := { row := agreeStartsUptoRow, standIns := [], harness := (true, "b9113d9a07aee3dcc8571ffc9a0e0f84b14f2724ad98b79f36e0a145197fbf40"), looks := false }, kinds := [], alts := [], laidByText := true, laidKinds := [.data, .data, .data], laidTests := true, laidLooks := .later }
def AgreeStartsUptoCardSaid : Prop := Claim7.holds Tryz.pinned (.plain (OpenSpec.upto agreeStartsSpec)) agreeStartsUptoCard

/-- THE SECOND FORM's CARD OF 'pawllaw14.AgreeAnswers'. -/
def agreeAnswersUptoCard : Claim7 := { stood := { row := agreeAnswersUptoRow, standIns := [], harness := (true, "b9113d9a07aee3dcc8571ffc9a0e0f84b14f2724ad98b79f36e0a145197fbf40"), looks := false }, kinds := [], alts := [], laidByText := true, laidKinds := [.data, .data, .data], laidTests := true, laidLooks := .later }
def AgreeAnswersUptoCardSaid : Prop := Claim7.holds Tryz.pinned (.plain (OpenSpec.upto agreeAnswersSpec)) agreeAnswersUptoCard
end Rows
end Go.Proofs.YtgbkbcgjagcgbaaGreatDoor
