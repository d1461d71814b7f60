/-
  DERIVED. GIVEN WITH THE SEED: THE CARDS: each row of YtbaefbfejmpliabDoorRows.lean that lists a variable, with what it lists TIED to the program's text (the seventh form; the later family's looks); each row that meets fmt, with fmt's text TOLD by the authors' own Lean function (tested against real Go, not proved from fmt's source: count such statements apart). THE CARD IS WHAT COUNTS. Prove the row's statement (the work); the ties are given (YtbaefbfejmpliabDoorTie.lean); close each card by the builder's one call (the guide's Derived/Test/ToyasCard.lean, 'card_holds'). Laid BY PROGRAM, IN A SANDBOX (cutbox-door.mjs). By AI agents, Wed Nov 11 2026. No macro, syntax, notation, axiom, sorry.
-/
import Derived.Test.YtbaefbfejmpliabDoorRows
import GoSem.ClaimSeven
namespace Go.Proofs.YtbaefbfejmpliabDoor
namespace Rows

/-- THE TIED CARD OF 'pawllaw14.AgreePacked'. -/
def agreePackedCard : Claim7 := { stood := { row := agreePackedRow, standIns := [], harness := (true, "4c6a594881d9f47bb5667c0d76b52088a1d89228a701c9131bdfda15640ce657"), looks := true }, kinds := [], alts := [], laidByText := true, laidKinds := [.data, .pinned], laidTests := true, laidLooks := .later }
def AgreePackedCardSaid : Prop := Claim7.holds Tryd.pinned (.plain (OpenSpec.ofChange agreePackedSpec)) agreePackedCard

/-- THE TIED CARD OF 'pawllaw14.AgreeOnly'. -/
def agreeOnlyCard : Claim7 := { stood := { row := agreeOnlyRow, standIns := [], harness := (true, "4c6a594881d9f47bb5667c0d76b52088a1d89228a701c9131bdfda15640ce657"), looks := true }, kinds := [], alts := [], laidByText := true, laidKinds := [.data, .pinned], laidTests := true, laidLooks := .later }
def AgreeOnlyCardSaid : Prop := Claim7.holds Tryd.pinned (.plain (OpenSpec.ofChange agreeOnlySpec)) agreeOnlyCard

/-- THE SECOND FORM's CARD OF 'pawllaw14.AgreePacked'. -/
def agreePackedUptoCard : Claim7 := { stood := { row := agreePackedUptoRow, standIns := [], harness := (true, "4c6a594881d9f47bb5667c0d76b52088a1d89228a701c9131bdfda15640ce657"), looks := true }, kinds := [], alts := [], laidByText := true, laidKinds := [.data, .pinned], laidTests := true, laidLooks := .later }
def AgreePackedUptoCardSaid : Prop := Claim7.holds Tryd.pinned (.plain (OpenSpec.upto agreePackedSpec)) agreePackedUptoCard

/-- THE SECOND FORM's CARD OF 'pawllaw14.AgreeOnly'. -/
def agreeOnlyUptoCard : Claim7 := { stood := { row := agreeOnlyUptoRow, standIns := [], harness := (true, "4c6a594881d9f47bb5667c0d76b52088a1d89228a701c9131bdfda15640ce657"), looks := true }, kinds := [], alts := [], laidByText := true, laidKinds := [.data, .pinned], laidTests := true, laidLooks := .later }
def AgreeOnlyUptoCardSaid : Prop := Claim7.holds Tryd.pinned (.plain (OpenSpec.upto agreeOnlySpec)) agreeOnlyUptoCard
end Rows
end Go.Proofs.YtbaefbfejmpliabDoor
