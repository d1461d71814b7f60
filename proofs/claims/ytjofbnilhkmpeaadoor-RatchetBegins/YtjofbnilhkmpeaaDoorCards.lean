/-
  DERIVED. GIVEN WITH THE SEED: THE CARDS: each row of YtjofbnilhkmpeaaDoorRows.lean that lists a variable, with what it lists TIED to the program's text (the seventh form; the later family's looks); each row that meets fmt, with fmt's text TOLD by the authors' own Lean function (tested against real Go, not proved from fmt's source: count such statements apart). THE CARD IS WHAT COUNTS. Prove the row's statement (the work); the ties are given (YtjofbnilhkmpeaaDoorTie.lean); close each card by the builder's one call (the guide's Derived/Test/ToyasCard.lean, 'card_holds'). Laid BY PROGRAM, IN A SANDBOX (cutbox-door.mjs). By AI agents, Wed Nov 11 2026. No macro, syntax, notation, axiom, sorry.
-/
import Derived.Test.YtjofbnilhkmpeaaDoorRows
import GoSem.ClaimSeven
namespace Go.Proofs.YtjofbnilhkmpeaaDoor
namespace Rows

/-- THE TIED CARD OF 'pawllaw13.RatchetBegins'. -/
def ratchetBeginsCard : Claim7 := { stood := { row := ratchetBeginsRow, standIns := [], harness := (true, "4a4282319f755d403fb64777f5a2cba2be0136741d02ddcf6969ddfe0a1ff432"), looks := false }, kinds := [], alts := [], laidByText := true, laidKinds := [.data], laidTests := true, laidLooks := .later }
def RatchetBeginsCardSaid : Prop := Claim7.holds Tryd.pinned (.plain (OpenSpec.ofChange ratchetBeginsSpec)) ratchetBeginsCard

/-- THE TIED CARD OF 'pawllaw13.RatchetChecks'. -/
def ratchetChecksCard : Claim7 := { stood := { row := ratchetChecksRow, standIns := [], harness := (true, "4a4282319f755d403fb64777f5a2cba2be0136741d02ddcf6969ddfe0a1ff432"), looks := false }, kinds := [], alts := [], laidByText := true, laidKinds := [.data], laidTests := true, laidLooks := .later }
def RatchetChecksCardSaid : Prop := Claim7.holds Tryd.pinned (.plain (OpenSpec.ofChange ratchetChecksSpec)) ratchetChecksCard

/-- THE SECOND FORM's CARD OF 'pawllaw13.RatchetBegins'. -/
def ratchetBeginsUptoCard : Claim7 := { stood := { row := ratchetBeginsUptoRow, standIns := [], harness := (true, "4a4282319f755d403fb64777f5a2cba2be0136741d02ddcf6969ddfe0a1ff432"), looks := false }, kinds := [], alts := [], laidByText := true, laidKinds := [.data], laidTests := true, laidLooks := .later }
def RatchetBeginsUptoCardSaid : Prop := Claim7.holds Tryd.pinned (.plain (OpenSpec.upto ratchetBeginsSpec)) ratchetBeginsUptoCard

/-- THE SECOND FORM's CARD OF 'pawllaw13.RatchetChecks'. -/
def ratchetChecksUptoCard : Claim7 := { stood := { row := ratchetChecksUptoRow, standIns := [], harness := (true, "4a4282319f755d403fb64777f5a2cba2be0136741d02ddcf6969ddfe0a1ff432"), looks := false }, kinds := [], alts := [], laidByText := true, laidKinds := [.data], laidTests := true, laidLooks := .later }
def RatchetChecksUptoCardSaid : Prop := Claim7.holds Tryd.pinned (.plain (OpenSpec.upto ratchetChecksSpec)) ratchetChecksUptoCard
end Rows
end Go.Proofs.YtjofbnilhkmpeaaDoor
