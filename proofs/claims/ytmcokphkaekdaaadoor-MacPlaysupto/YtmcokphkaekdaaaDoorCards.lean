/-
  DERIVED. GIVEN WITH THE SEED: THE CARDS: each row of YtmcokphkaekdaaaDoorRows.lean that lists a variable, with what it lists TIED to the program's text (the seventh form; the later family's looks); each row that meets fmt, with fmt's text TOLD by the authors' own Lean function (tested against real Go, not proved from fmt's source: count such statements apart). THE CARD IS WHAT COUNTS. Prove the row's statement (the work); the ties are given (YtmcokphkaekdaaaDoorTie.lean); close each card by the builder's one call (the guide's Derived/Test/ToyasCard.lean, 'card_holds'). Laid BY PROGRAM, IN A SANDBOX (cutbox-door.mjs). By AI agents, Wed Nov 11 2026. No macro, syntax, notation, axiom, sorry.
-/
import Derived.Test.YtmcokphkaekdaaaDoorRows
import GoSem.ClaimSeven
namespace Go.Proofs.YtmcokphkaekdaaaDoor
namespace Rows

/-- THE TIED CARD OF 'pawllaw04.MacSums'. -/
def macSumsCard : Claim7 := { stood := { row := macSumsRow, standIns := [], harness := (true, "272426462354c31f7dcf7917a6941e26ec33069b74acf1dbd9482d00f588148a"), looks := false }, kinds := [], alts := [], laidByText := true, laidKinds := [.data, .data], laidTests := true, laidLooks := .later }
def MacSumsCardSaid : Prop := Claim7.holds Tryd.pinned (.plain (OpenSpec.ofChange macSumsSpec)) macSumsCard

/-- THE TIED CARD OF 'pawllaw04.MacPlays'. -/
def macPlaysCard : Claim7 := { stood := { row := macPlaysRow, standIns := [], harness := (true, "272426462354c31f7dcf7917a6941e26ec33069b74acf1dbd9482d00f588148a"), looks := false }, kinds := [], alts := [], laidByText := true, laidKinds := [.data, .data], laidTests := true, laidLooks := .later }
def MacPlaysCardSaid : Prop := Claim7.holds Tryd.pinned (.plain (OpenSpec.ofChange macPlaysSpec)) macPlaysCard

/-- THE TIED CARD OF 'pawllaw04.MacExtracts'. -/
def macExtractsCard : Claim7 := { stood := { row := macExtractsRow, standIns := [], harness := (true, "272426462354c31f7dcf7917a6941e26ec33069b74acf1dbd9482d00f588148a"), looks := false }, kinds := [], alts := [], laidByText := true, laidKinds := [.data, .data], laidTests := true, laidLooks := .later }
def MacExtractsCardSaid : Prop := Claim7.holds Tryd.pinned (.plain (OpenSpec.ofChange macExtractsSpec)) macExtractsCard

/-- THE TIED CARD OF 'pawllaw04.MacExpands'. -/
def macExpandsCard : Claim7 := { stood := { row := macExpandsRow, standIns := [], harness := (true, "272426462354c31f7dcf7917a6941e26ec33069b74acf1dbd9482d00f588148a"), looks := false }, kinds := [], alts := [], laidByText := true, laidKinds := [.data, .data], laidTests := true, laidLooks := .later }
def MacExpandsCardSaid : Prop := Claim7.holds Tryd.pinned (.plain (OpenSpec.ofChange macExpandsSpec)) macExpandsCard

/-- THE TIED CARD OF 'pawllaw04.MacDerives'. -/
def macDerivesCard : Claim7 := { stood := { row := macDerivesRow, standIns := [], harness := (true, "272426462354c31f7dcf7917a6941e26ec33069b74acf1dbd9482d00f588148a"), looks := false }, kinds := [], alts := [], laidByText := true, laidKinds := [.data, .data], laidTests := true, laidLooks := .later }
def MacDerivesCardSaid : Prop := Claim7.holds Tryd.pinned (.plain (OpenSpec.ofChange macDerivesSpec)) macDerivesCard

/-- THE TIED CARD OF 'pawllaw04.MacVectors'. -/
def macVectorsCard : Claim7 := { stood := { row := macVectorsRow, standIns := [], harness := (true, "272426462354c31f7dcf7917a6941e26ec33069b74acf1dbd9482d00f588148a"), looks := false }, kinds := [], alts := [], laidByText := true, laidKinds := [.data, .data], laidTests := true, laidLooks := .later }
def MacVectorsCardSaid : Prop := Claim7.holds Tryd.pinned (.plain (OpenSpec.ofChange macVectorsSpec)) macVectorsCard

/-- THE SECOND FORM's CARD OF 'pawllaw04.MacSums'. -/
def macSumsUptoCard : Claim7 := { stood := { row := macSumsUptoRow, standIns := [], harness := (true, "272426462354c31f7dcf7917a6941e26ec33069b74acf1dbd9482d00f588148a"), looks := false }, kinds := [], alts := [], laidByText := true, laidKinds := [.data, .data], laidTests := true, laidLooks := .later }
def MacSumsUptoCardSaid : Prop := Claim7.holds Tryd.pinned (.plain (OpenSpec.upto macSumsSpec)) macSumsUptoCard

/-- THE SECOND FORM's CARD OF 'pawllaw04.MacPlays'. -/
def macPlaysUptoCard : Claim7 := { stood := { row := macPlaysUptoRow, standIns := [], harness := (true, "272426462354c31f7dcf7917a6941e26ec33069b74acf1dbd9482d00f588148a"), looks := false }, kinds := [], alts := [], laidByText := true, laidKinds := [.data, .data], laidTests := true, laidLooks := .later }
def MacPlaysUptoCardSaid : Prop := Claim7.holds Tryd.pinned (.plain (OpenSpec.upto macPlaysSpec)) macPlaysUptoCard

/-- THE SECOND FORM's CARD OF 'pawllaw04.MacExtracts'. -/
def macExtractsUptoCard : Claim7 := { stood := { row := macExtractsUptoRow, standIns := [], harness := (true, "272426462354c31f7dcf7917a6941e26ec33069b74acf1dbd9482d00f588148a"), looks := false }, kinds := [], alts := [], laidByText := true, laidKinds := [.data, .data], laidTests := true, laidLooks := .later }
def MacExtractsUptoCardSaid : Prop := Claim7.holds Tryd.pinned (.plain (OpenSpec.upto macExtractsSpec)) macExtractsUptoCard

/-- THE SECOND FORM's CARD OF 'pawllaw04.MacExpands'. -/
def macExpandsUptoCard : Claim7 := { stood := { row := macExpandsUptoRow, standIns := [], harness := (true, "272426462354c31f7dcf7917a6941e26ec33069b74acf1dbd9482d00f588148a"), looks := false }, kinds := [], alts := [], laidByText := true, laidKinds := [.data, .data], laidTests := true, laidLooks := .later }
def MacExpandsUptoCardSaid : Prop := Claim7.holds Tryd.pinned (.plain (OpenSpec.upto macExpandsSpec)) macExpandsUptoCard

/-- THE SECOND FORM's CARD OF 'pawllaw04.MacDerives'. -/
def macDerivesUptoCard : Claim7 := { stood := { row := macDerivesUptoRow, standIns := [], harness := (true, "272426462354c31f7dcf7917a6941e26ec33069b74acf1dbd9482d00f588148a"), looks := false }, kinds := [], alts := [], laidByText := true, laidKinds := [.data, .data], laidTests := true, laidLooks := .later }
def MacDerivesUptoCardSaid : Prop := Claim7.holds Tryd.pinned (.plain (OpenSpec.upto macDerivesSpec)) macDerivesUptoCard

/-- THE SECOND FORM's CARD OF 'pawllaw04.MacVectors'. -/
def macVectorsUptoCard : Claim7 := { stood := { row := macVectorsUptoRow, standIns := [], harness := (true, "272426462354c31f7dcf7917a6941e26ec33069b74acf1dbd9482d00f588148a"), looks := false }, kinds := [], alts := [], laidByText := true, laidKinds := [.data, .data], laidTests := true, laidLooks := .later }
def MacVectorsUptoCardSaid : Prop := Claim7.holds Tryd.pinned (.plain (OpenSpec.upto macVectorsSpec)) macVectorsUptoCard
end Rows
end Go.Proofs.YtmcokphkaekdaaaDoor
