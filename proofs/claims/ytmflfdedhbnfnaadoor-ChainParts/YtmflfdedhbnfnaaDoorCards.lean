/-
  DERIVED. GIVEN WITH THE SEED: THE CARDS: each row of YtmflfdedhbnfnaaDoorRows.lean that lists a variable, with what it lists TIED to the program's text (the seventh form; the later family's looks); each row that meets fmt, with fmt's text TOLD by the authors' own Lean function (tested against real Go, not proved from fmt's source: count such statements apart). THE CARD IS WHAT COUNTS. Prove the row's statement (the work); the ties are given (YtmflfdedhbnfnaaDoorTie.lean); close each card by the builder's one call (the guide's Derived/Test/ToyasCard.lean, 'card_holds'). Laid BY PROGRAM, IN A SANDBOX (cutbox-door.mjs). By AI agents, Wed Nov 11 2026. No macro, syntax, notation, axiom, sorry.
-/
import Derived.Test.YtmflfdedhbnfnaaDoorRows
import GoSem.ClaimSeven
namespace Go.Proofs.YtmflfdedhbnfnaaDoor
namespace Rows

/-- THE TIED CARD OF 'pawllaw11.ChainMakings'. -/
def chainMakingsCard : Claim7 := { stood := { row := chainMakingsRow, standIns := [], harness := (true, "c2b02d2746995d370bebf2478783498cb9fb9a4e029a959e6c73bc9244704601"), looks := false }, kinds := [], alts := [], laidByText := true, laidKinds := [.data, .data], laidTests := true, laidLooks := .later }
def ChainMakingsCardSaid : Prop := Claim7.holds Tryd.pinned (.plain (OpenSpec.ofChange chainMakingsSpec)) chainMakingsCard

/-- THE TIED CARD OF 'pawllaw11.ChainAll'. -/
def chainAllCard : Claim7 := { stood := { row := chainAllRow, standIns := [], harness := (true, "c2b02d2746995d370bebf2478783498cb9fb9a4e029a959e6c73bc9244704601"), looks := false }, kinds := [], alts := [], laidByText := true, laidKinds := [.data, .data], laidTests := true, laidLooks := .later }
def ChainAllCardSaid : Prop := Claim7.holds Tryd.pinned (.plain (OpenSpec.ofChange chainAllSpec)) chainAllCard

/-- THE TIED CARD OF 'pawllaw11.ChainForward'. -/
def chainForwardCard : Claim7 := { stood := { row := chainForwardRow, standIns := [], harness := (true, "c2b02d2746995d370bebf2478783498cb9fb9a4e029a959e6c73bc9244704601"), looks := false }, kinds := [], alts := [], laidByText := true, laidKinds := [.data, .data], laidTests := true, laidLooks := .later }
def ChainForwardCardSaid : Prop := Claim7.holds Tryd.pinned (.plain (OpenSpec.ofChange chainForwardSpec)) chainForwardCard

/-- THE TIED CARD OF 'pawllaw11.ChainParts'. -/
def chainPartsCard : Claim7 := { stood := { row := chainPartsRow, standIns := [], harness := (true, "c2b02d2746995d370bebf2478783498cb9fb9a4e029a959e6c73bc9244704601"), looks := false }, kinds := [], alts := [], laidByText := true, laidKinds := [.data, .data], laidTests := true, laidLooks := .later }
def ChainPartsCardSaid : Prop := Claim7.holds Tryd.pinned (.plain (OpenSpec.ofChange chainPartsSpec)) chainPartsCard

/-- THE TIED CARD OF 'pawllaw11.ChainStill'. -/
def chainStillCard : Claim7 := { stood := { row := chainStillRow, standIns := [], harness := (true, "c2b02d2746995d370bebf2478783498cb9fb9a4e029a959e6c73bc9244704601"), looks := false }, kinds := [], alts := [], laidByText := true, laidKinds := [.data, .data], laidTests := true, laidLooks := .later }
def ChainStillCardSaid : Prop := Claim7.holds Tryd.pinned (.plain (OpenSpec.ofChange chainStillSpec)) chainStillCard

/-- THE SECOND FORM's CARD OF 'pawllaw11.ChainMakings'. -/
def chainMakingsUptoCard : Claim7 := { stood := { row := chainMakingsUptoRow, standIns := [], harness := (true, "c2b02d2746995d370bebf2478783498cb9fb9a4e029a959e6c73bc9244704601"), looks := false }, kinds := [], alts := [], laidByText := true, laidKinds := [.data, .data], laidTests := true, laidLooks := .later }
def ChainMakingsUptoCardSaid : Prop := Claim7.holds Tryd.pinned (.plain (OpenSpec.upto chainMakingsSpec)) chainMakingsUptoCard

/-- THE SECOND FORM's CARD OF 'pawllaw11.ChainAll'. -/
def chainAllUptoCard : Claim7 := { stood := { row := chainAllUptoRow, standIns := [], harness := (true, "c2b02d2746995d370bebf2478783498cb9fb9a4e029a959e6c73bc9244704601"), looks := false }, kinds := [], alts := [], laidByText := true, laidKinds := [.data, .data], laidTests := true, laidLooks := .later }
def ChainAllUptoCardSaid : Prop := Claim7.holds Tryd.pinned (.plain (OpenSpec.upto chainAllSpec)) chainAllUptoCard

/-- THE SECOND FORM's CARD OF 'pawllaw11.ChainForward'. -/
def chainForwardUptoCard : Claim7 := { stood := { row := chainForwardUptoRow, standIns := [], harness := (true, "c2b02d2746995d370bebf2478783498cb9fb9a4e029a959e6c73bc9244704601"), looks := false }, kinds := [], alts := [], laidByText := true, laidKinds := [.data, .data], laidTests := true, laidLooks := .later }
def ChainForwardUptoCardSaid : Prop := Claim7.holds Tryd.pinned (.plain (OpenSpec.upto chainForwardSpec)) chainForwardUptoCard

/-- THE SECOND FORM's CARD OF 'pawllaw11.ChainParts'. -/
def chainPartsUptoCard : Claim7 := { stood := { row := chainPartsUptoRow, standIns := [], harness := (true, "c2b02d2746995d370bebf2478783498cb9fb9a4e029a959e6c73bc9244704601"), looks := false }, kinds := [], alts := [], laidByText := true, laidKinds := [.data, .data], laidTests := true, laidLooks := .later }
def ChainPartsUptoCardSaid : Prop := Claim7.holds Tryd.pinned (.plain (OpenSpec.upto chainPartsSpec)) chainPartsUptoCard

/-- THE SECOND FORM's CARD OF 'pawllaw11.ChainStill'. -/
def chainStillUptoCard : Claim7 := { stood := { row := chainStillUptoRow, standIns := [], harness := (true, "c2b02d2746995d370bebf2478783498cb9fb9a4e029a959e6c73bc9244704601"), looks := false }, kinds := [], alts := [], laidByText := true, laidKinds := [.data, .data], laidTests := true, laidLooks := .later }
def ChainStillUptoCardSaid : Prop := Claim7.holds Tryd.pinned (.plain (OpenSpec.upto chainStillSpec)) chainStillUptoCard
end Rows
end Go.Proofs.YtmflfdedhbnfnaaDoor
