/-
  NARROWER THAN 'FOR EVERY INPUT', by the rows' own cells (each row's printed sentence says how): EnvelopeHeaders: laid · EnvelopeReads: laid · EnvelopeHeaded: laid · EnvelopeHeadOnly: laid · AgreePacks: laid · AgreeParses: laid.
  DERIVED. THE GIVEN ROWS OF THIS SEAT. 6 by the template 'for every input the law returns true; each argument reads behind the call as it read before'; 0 by the template 'total and deterministic' (their statements: YtbaefbfejmpliaaGreatDoorTotals.lean).
  GIVEN WITH THE SEED: the statements are not yours to turn. If you find one false, say at which input.
  Laid BY PROGRAM, IN A SANDBOX (cutbox-rows.mjs): the forced cells as the released guide's own fill.sh prints them over the translation cd3b1656c23ca912… (all of the seat's roots in one cut). By AI agents, Wed Nov 11 2026. No macro, syntax, notation, axiom, sorry.
-/
import Derived.Test.YtbaefbfejmpliaaGreatDoorChecked
import GoSem.PinnedTables
import GoSem.Claim
import GoSem.ClaimJoined
import GoSem.ClaimMapViews
import Derived.JoinedTies
import Derived.KernelRfl
namespace Go.Proofs.YtbaefbfejmpliaaGreatDoor
/- THE CELL 'sum', in the pinned program and in every row, IS THE sha256 OF THE DUMP (.gsa) THAT YtbaefbfejmpliaaGreatDoorProg.lean LOADS. Nothing in Lean hashes anything: it is a label: what it is worth is what the hold of that sum in a sandbox is worth. -/
noncomputable def Tryz.pinned : Pinned := { name := "ytbaefbfejmpliaagreatdoor", sum := "cd3b1656c23ca9120a7af35c2a4fc841c72c672d88bd8928b0e0ac487d3be59c", checked := Tryz.checked }
namespace Rows
def none {H : Type} : Left H := { results := [], args := [] }

/- WHAT THE LISTED PACKAGE-LEVEL VARIABLES READ AS WHEN THE CALL BEGINS. Each datum BY PROGRAM (the guide's laid-datum.mjs) off the statement by which the dump's own 'gosem.cut.vars' lays the variable. In a bare row this is a premise. The card (YtbaefbfejmpliaaGreatDoorCards.lean) ties it to the program's text. -/
def laid_unicode_utf8_acceptRanges {H : Type} : DataW H := .agg [.agg [.lit (.int .u8 128), .lit (.int .u8 191)], .agg [.lit (.int .u8 160), .lit (.int .u8 191)], .agg [.lit (.int .u8 128), .lit (.int .u8 159)], .agg [.lit (.int .u8 144), .lit (.int .u8 191)], .agg [.lit (.int .u8 128), .lit (.int .u8 143)], .agg [.lit (.int .u8 0), .lit (.int .u8 0)], .agg [.lit (.int .u8 0), .lit (.int .u8 0)], .agg [.lit (.int .u8 0), .lit (.int .u8 0)], .agg [.lit (.int .u8 0), .lit (.int .u8 0)], .agg [.lit (.int .u8 0), .lit (.int .u8 0)], .agg [.lit (.int .u8 0), .lit (.int .u8 0)], .agg [.lit (.int .u8 0), .lit (.int .u8 0)], .agg [.lit (.int .u8 0), .lit (.int .u8 0)], .agg [.lit (.int .u8 0), .lit (.int .u8 0)], .agg [.lit (.int .u8 0), .lit (.int .u8 0)], .agg [.lit (.int .u8 0), .lit (.int .u8 0)]]
/-- One of Go's own tables, pinned by name: the form's constant. -/
def laid_unicode_utf8_first : DataW Unit := Go.Pinned.utf8First
def laid_errors_errorType {H : Type} : DataW H := .iface "internal/reflectlite.rtype" (.agg [.ptr (.lit (.string [101, 114, 114, 111, 114]))])

/-- 'pawllaw10.EnvelopeHeaders': WHATEVER THE INPUT: true; the input reads as it did. -/
def envelopeHeadersSpec : ChangeSpec := { name := "envelopeHeaders", fn := fun _ => fun
  | [d] => { results := [.lit (.bool true)], args := [d] }
  | _ => none }
def envelopeHeadersRow : OpenClaim := { program := "ytbaefbfejmpliaagreatdoor", sum := "cd3b1656c23ca9120a7af35c2a4fc841c72c672d88bd8928b0e0ac487d3be59c", func := "pawl/pawllaw10.EnvelopeHeaders", spec := "envelopeHeaders", inPlace := ["math.Float64frombits", "math.Float64bits"], unfollowed := true, recurses := true, named := ["unicode/utf8.first", "unicode/utf8.acceptRanges"], apart := false, laid := [("unicode/utf8.acceptRanges", laid_unicode_utf8_acceptRanges), ("unicode/utf8.first", laid_unicode_utf8_first)] }
def EnvelopeHeadersSaid : Prop := envelopeHeadersRow.holds Tryz.pinned (OpenSpec.ofChange envelopeHeadersSpec)

/-- ITS FALSE NEIGHBOUR: 'it returns false'. Refute it at one input. -/
def envelopeHeadersWrong : ChangeSpec := { name := "envelopeHeaders", fn := fun _ => fun
  | [d] => { results := [.lit (.bool false)], args := [d] }
  | _ => none }
def EnvelopeHeadersWrongFalsely : Prop := envelopeHeadersRow.holds Tryz.pinned (OpenSpec.ofChange envelopeHeadersWrong)

/-- 'pawllaw10.EnvelopeReads': WHATEVER THE INPUT: true; the input reads as it did. -/
def envelopeReadsSpec : ChangeSpec := { name := "envelopeReads", fn := fun _ => fun
  | [d] => { results := [.lit (.bool true)], args := [d] }
  | _ => none }
def envelopeReadsRow : OpenClaim := { program := "ytbaefbfejmpliaagreatdoor", sum := "cd3b1656c23ca9120a7af35c2a4fc841c72c672d88bd8928b0e0ac487d3be59c", func := "pawl/pawllaw10.EnvelopeReads", spec := "envelopeReads", inPlace := ["math.Float64frombits", "math.Float64bits", "internal/reflectlite.ValueOf", "(internal/reflectlite.Value).Type", "(internal/reflectlite.Value).IsNil", "internal/reflectlite.TypeOf", "(internal/reflectlite.Value).Elem", "(internal/reflectlite.Value).Set"], unfollowed := true, recurses := true, named := ["unicode/utf8.first", "unicode/utf8.acceptRanges", "errors.errorType"], apart := false, laid := [("unicode/utf8.acceptRanges", laid_unicode_utf8_acceptRanges), ("errors.errorType", laid_errors_errorType), ("unicode/utf8.first", laid_unicode_utf8_first)] }
def EnvelopeReadsSaid : Prop := envelopeReadsRow.holds Tryz.pinned (OpenSpec.ofChange envelopeReadsSpec)

/-- ITS FALSE NEIGHBOUR: 'it returns false'. Refute it at one input. -/
def envelopeReadsWrong : ChangeSpec := { name := "envelopeReads", fn := fun _ => fun
  | [d] => { results := [.lit (.bool false)], args := [d] }
  | _ => none }
def EnvelopeReadsWrongFalsely : Prop := envelopeReadsRow.holds Tryz.pinned (OpenSpec.ofChange envelopeReadsWrong)

/-- 'pawllaw10.EnvelopeHeaded': WHATEVER THE INPUT: true; the input reads as it did. -/
def envelopeHeadedSpec : ChangeSpec := { name := "envelopeHeaded", fn := fun _ => fun
  | [d] => { results := [.lit (.bool true)], args := [d] }
  | _ => none }
def envelopeHeadedRow : OpenClaim := { program := "ytbaefbfejmpliaagreatdoor", sum := "cd3b1656c23ca9120a7af35c2a4fc841c72c672d88bd8928b0e0ac487d3be59c", func := "pawl/pawllaw10.EnvelopeHeaded", spec := "envelopeHeaded", inPlace := ["math.Float64frombits", "math.Float64bits", "internal/reflectlite.ValueOf", "(internal/reflectlite.Value).Type", "(internal/reflectlite.Value).IsNil", "internal/reflectlite.TypeOf", "(internal/reflectlite.Value).Elem", "(internal/reflectlite.Value).Set"], unfollowed := true, recurses := true, named := ["unicode/utf8.first", "unicode/utf8.acceptRanges", "errors.errorType"], apart := false, laid := [("unicode/utf8.acceptRanges", laid_unicode_utf8_acceptRanges), ("errors.errorType", laid_errors_errorType), ("unicode/utf8.first", laid_unicode_utf8_first)] }
def EnvelopeHeadedSaid : Prop := envelopeHeadedRow.holds Tryz.pinned (OpenSpec.ofChange envelopeHeadedSpec)

/-- ITS FALSE NEIGHBOUR: 'it returns false'. Refute it at one input. -/
def envelopeHeadedWrong : ChangeSpec := { name := "envelopeHeaded", fn := fun _ => fun
  | [d] => { results := [.lit (.bool false)], args := [d] }
  | _ => none }
def EnvelopeHeadedWrongFalsely : Prop := envelopeHeadedRow.holds Tryz.pinned (OpenSpec.ofChange envelopeHeadedWrong)

/-- 'pawllaw10.EnvelopeHeadOnly': WHATEVER THE INPUT: true; the input reads as it did. -/
def envelopeHeadOnlySpec : ChangeSpec := { name := "envelopeHeadOnly", fn := fun _ => fun
  | [d] => { results := [.lit (.bool true)], args := [d] }
  | _ => none }
def envelopeHeadOnlyRow : OpenClaim := { program := "ytbaefbfejmpliaagreatdoor", sum := "cd3b1656c23ca9120a7af35c2a4fc841c72c672d88bd8928b0e0ac487d3be59c", func := "pawl/pawllaw10.EnvelopeHeadOnly", spec := "envelopeHeadOnly", inPlace := ["math.Float64frombits", "math.Float64bits", "internal/reflectlite.ValueOf", "(internal/reflectlite.Value).Type", "(internal/reflectlite.Value).IsNil", "internal/reflectlite.TypeOf", "(internal/reflectlite.Value).Elem", "(internal/reflectlite.Value).Set"], unfollowed := true, recurses := true, named := ["unicode/utf8.first", "unicode/utf8.acceptRanges", "errors.errorType"], apart := false, laid := [("unicode/utf8.acceptRanges", laid_unicode_utf8_acceptRanges), ("errors.errorType", laid_errors_errorType), ("unicode/utf8.first", laid_unicode_utf8_first)] }
def EnvelopeHeadOnlySaid : Prop := envelopeHeadOnlyRow.holds Tryz.pinned (OpenSpec.ofChange envelopeHeadOnlySpec)

/-- ITS FALSE NEIGHBOUR: 'it returns false'. Refute it at one input. -/
def envelopeHeadOnlyWrong : ChangeSpec := { name := "envelopeHeadOnly", fn := fun _ => fun
  | [d] => { results := [.lit (.bool false)], args := [d] }
  | _ => none }
def EnvelopeHeadOnlyWrongFalsely : Prop := envelopeHeadOnlyRow.holds Tryz.pinned (OpenSpec.ofChange envelopeHeadOnlyWrong)

/-- 'pawllaw14.AgreePacks': WHATEVER THE INPUT: true; the input reads as it did. -/
def agreePacksSpec : ChangeSpec := { name := "agreePacks", fn := fun _ => fun
  | [d] => { results := [.lit (.bool true)], args := [d] }
  | _ => none }
def agreePacksRow : OpenClaim := { program := "ytbaefbfejmpliaagreatdoor", sum := "cd3b1656c23ca9120a7af35c2a4fc841c72c672d88bd8928b0e0ac487d3be59c", func := "pawl/pawllaw14.AgreePacks", spec := "agreePacks", inPlace := ["math.Float64frombits", "math.Float64bits"], unfollowed := true, recurses := true, named := ["unicode/utf8.first", "unicode/utf8.acceptRanges"], apart := false, laid := [("unicode/utf8.acceptRanges", laid_unicode_utf8_acceptRanges), ("unicode/utf8.first", laid_unicode_utf8_first)] }
def AgreePacksSaid : Prop := agreePacksRow.holds Tryz.pinned (OpenSpec.ofChange agreePacksSpec)

/-- ITS FALSE NEIGHBOUR: 'it returns false'. Refute it at one input. -/
def agreePacksWrong : ChangeSpec := { name := "agreePacks", fn := fun _ => fun
  | [d] => { results := [.lit (.bool false)], args := [d] }
  | _ => none }
def AgreePacksWrongFalsely : Prop := agreePacksRow.holds Tryz.pinned (OpenSpec.ofChange agreePacksWrong)

/-- 'pawllaw14.AgreeParses': WHATEVER THE INPUT: true; the input reads as it did. -/
def agreeParsesSpec : ChangeSpec := { name := "agreeParses", fn := fun _ => fun
  | [d] => { results := [.lit (.bool true)], args := [d] }
  | _ => none }
def agreeParsesRow : OpenClaim := { program := "ytbaefbfejmpliaagreatdoor", sum := "cd3b1656c23ca9120a7af35c2a4fc841c72c672d88bd8928b0e0ac487d3be59c", func := "pawl/pawllaw14.AgreeParses", spec := "agreeParses", inPlace := ["math.Float64frombits", "math.Float64bits", "internal/reflectlite.ValueOf", "(internal/reflectlite.Value).Type", "(internal/reflectlite.Value).IsNil", "internal/reflectlite.TypeOf", "(internal/reflectlite.Value).Elem", "(internal/reflectlite.Value).Set"], unfollowed := true, recurses := true, named := ["unicode/utf8.first", "unicode/utf8.acceptRanges", "errors.errorType"], apart := false, laid := [("unicode/utf8.acceptRanges", laid_unicode_utf8_acceptRanges), ("errors.errorType", laid_errors_errorType), ("unicode/utf8.first", laid_unicode_utf8_first)] }
def AgreeParsesSaid : Prop := agreeParsesRow.holds Tryz.pinned (OpenSpec.ofChange agreeParsesSpec)

/-- ITS FALSE NEIGHBOUR: 'it returns false'. Refute it at one input. -/
def agreeParsesWrong : ChangeSpec := { name := "agreeParses", fn := fun _ => fun
  | [d] => { results := [.lit (.bool false)], args := [d] }
  | _ => none }
def AgreeParsesWrongFalsely : Prop := agreeParsesRow.holds Tryz.pinned (OpenSpec.ofChange agreeParsesWrong)

/- THE SECOND FORM. 'bulk': how many values and letters a reading holds, each counted each time it is reached (what is shared counts as often as it is met; a slice's spare places count too). A statement '..UptoSaid' is the law's where the arguments, and the package variables that the reading takes, are together of bulk at most 1048576: NARROWER than '..Said'. Prove '..Said' where nothing that the law and all that it calls make is longer than what came in: it says more and counts as full. Else prove '..UptoSaid'. A law counts once. -/
mutual
def uptoBulk {H : Type} : DataW H → Nat
  | .lit (.string bytes) => bytes.length + 1
  | .lit _ => 1
  | .nil => 1
  | .ptr d => uptoBulk d + 1
  | .slice elems spare => uptoBulkAll elems + uptoBulkAll spare + 1
  | .agg parts => uptoBulkAll parts + 1
  | .iface _ d => uptoBulk d + 1
  | .map entries => uptoBulkEntries entries + 1
  | .held _ => 1
def uptoBulkAll {H : Type} : List (DataW H) → Nat
  | [] => 0
  | d :: r => uptoBulk d + uptoBulkAll r
def uptoBulkEntries {H : Type} : List (Lit × DataW H) → Nat
  | [] => 0
  | x :: r => uptoBulkEntry x + uptoBulkEntries r
def uptoBulkEntry {H : Type} : Lit × DataW H → Nat
  | (.string bytes, d) => bytes.length + uptoBulk d + 1
  | (_, d) => uptoBulk d + 1
 end
def uptoSmall : (H : Type) → List (DataW H) → Bool := fun _ ds => decide (uptoBulkAll ds ≤ 1048576)
def OpenSpec.upto (s : _root_.Go.ChangeSpec) : _root_.Go.OpenSpec := { _root_.Go.OpenSpec.ofChange s with cond := some uptoSmall }

/-- 'pawllaw10.EnvelopeHeaders', WHERE WHAT IT READS IS OF BULK AT MOST 1048576: true; the input reads as it did. -/
def envelopeHeadersUptoRow : OpenClaim := { program := "ytbaefbfejmpliaagreatdoor", sum := "cd3b1656c23ca9120a7af35c2a4fc841c72c672d88bd8928b0e0ac487d3be59c", func := "pawl/pawllaw10.EnvelopeHeaders", spec := "envelopeHeaders", inPlace := ["math.Float64frombits", "math.Float64bits"], unfollowed := true, recurses := true, named := ["unicode/utf8.first", "unicode/utf8.acceptRanges"], apart := false, laid := [("unicode/utf8.acceptRanges", laid_unicode_utf8_acceptRanges), ("unicode/utf8.first", laid_unicode_utf8_first)], narrowed := true }
def EnvelopeHeadersUptoSaid : Prop := envelopeHeadersUptoRow.holds Tryz.pinned (OpenSpec.upto envelopeHeadersSpec)

/-- 'pawllaw10.EnvelopeReads', WHERE WHAT IT READS IS OF BULK AT MOST 1048576: true; the input reads as it did. -/
def envelopeReadsUptoRow : OpenClaim := { program := "ytbaefbfejmpliaagreatdoor", sum := "cd3b1656c23ca9120a7af35c2a4fc841c72c672d88bd8928b0e0ac487d3be59c", func := "pawl/pawllaw10.EnvelopeReads", spec := "envelopeReads", inPlace := ["math.Float64frombits", "math.Float64bits", "internal/reflectlite.ValueOf", "(internal/reflectlite.Value).Type", "(internal/reflectlite.Value).IsNil", "internal/reflectlite.TypeOf", "(internal/reflectlite.Value).Elem", "(internal/reflectlite.Value).Set"], unfollowed := true, recurses := true, named := ["unicode/utf8.first", "unicode/utf8.acceptRanges", "errors.errorType"], apart := false, laid := [("unicode/utf8.acceptRanges", laid_unicode_utf8_acceptRanges), ("errors.errorType", laid_errors_errorType), ("unicode/utf8.first", laid_unicode_utf8_first)], narrowed := true }
def EnvelopeReadsUptoSaid : Prop := envelopeReadsUptoRow.holds Tryz.pinned (OpenSpec.upto envelopeReadsSpec)

/-- 'pawllaw10.EnvelopeHeaded', WHERE WHAT IT READS IS OF BULK AT MOST 1048576: true; the input reads as it did. -/
def envelopeHeadedUptoRow : OpenClaim := { program := "ytbaefbfejmpliaagreatdoor", sum := "cd3b1656c23ca9120a7af35c2a4fc841c72c672d88bd8928b0e0ac487d3be59c", func := "pawl/pawllaw10.EnvelopeHeaded", spec := "envelopeHeaded", inPlace := ["math.Float64frombits", "math.Float64bits", "internal/reflectlite.ValueOf", "(internal/reflectlite.Value).Type", "(internal/reflectlite.Value).IsNil", "internal/reflectlite.TypeOf", "(internal/reflectlite.Value).Elem", "(internal/reflectlite.Value).Set"], unfollowed := true, recurses := true, named := ["unicode/utf8.first", "unicode/utf8.acceptRanges", "errors.errorType"], apart := false, laid := [("unicode/utf8.acceptRanges", laid_unicode_utf8_acceptRanges), ("errors.errorType", laid_errors_errorType), ("unicode/utf8.first", laid_unicode_utf8_first)], narrowed := true }
def EnvelopeHeadedUptoSaid : Prop := envelopeHeadedUptoRow.holds Tryz.pinned (OpenSpec.upto envelopeHeadedSpec)

/-- 'pawllaw10.EnvelopeHeadOnly', WHERE WHAT IT READS IS OF BULK AT MOST 1048576: true; the input reads as it did. -/
def envelopeHeadOnlyUptoRow : OpenClaim := { program := "ytbaefbfejmpliaagreatdoor", sum := "cd3b1656c23ca9120a7af35c2a4fc841c72c672d88bd8928b0e0ac487d3be59c", func := "pawl/pawllaw10.EnvelopeHeadOnly", spec := "envelopeHeadOnly", inPlace := ["math.Float64frombits", "math.Float64bits", "internal/reflectlite.ValueOf", "(internal/reflectlite.Value).Type", "(internal/reflectlite.Value).IsNil", "internal/reflectlite.TypeOf", "(internal/reflectlite.Value).Elem", "(internal/reflectlite.Value).Set"], unfollowed := true, recurses := true, named := ["unicode/utf8.first", "unicode/utf8.acceptRanges", "errors.errorType"], apart := false, laid := [("unicode/utf8.acceptRanges", laid_unicode_utf8_acceptRanges), ("errors.errorType", laid_errors_errorType), ("unicode/utf8.first", laid_unicode_utf8_first)], narrowed := true }
def EnvelopeHeadOnlyUptoSaid : Prop := envelopeHeadOnlyUptoRow.holds Tryz.pinned (OpenSpec.upto envelopeHeadOnlySpec)

/-- 'pawllaw14.AgreePacks', WHERE WHAT IT READS IS OF BULK AT MOST 1048576: true; the input reads as it did. -/
def agreePacksUptoRow : OpenClaim := { program := "ytbaefbfejmpliaagreatdoor", sum := "cd3b1656c23ca9120a7af35c2a4fc841c72c672d88bd8928b0e0ac487d3be59c", func := "pawl/pawllaw14.AgreePacks", spec := "agreePacks", inPlace := ["math.Float64frombits", "math.Float64bits"], unfollowed := true, recurses := true, named := ["unicode/utf8.first", "unicode/utf8.acceptRanges"], apart := false, laid := [("unicode/utf8.acceptRanges", laid_unicode_utf8_acceptRanges), ("unicode/utf8.first", laid_unicode_utf8_first)], narrowed := true }
def AgreePacksUptoSaid : Prop := agreePacksUptoRow.holds Tryz.pinned (OpenSpec.upto agreePacksSpec)

/-- 'pawllaw14.AgreeParses', WHERE WHAT IT READS IS OF BULK AT MOST 1048576: true; the input reads as it did. -/
def agreeParsesUptoRow : OpenClaim := { program := "ytbaefbfejmpliaagreatdoor", sum := "cd3b1656c23ca9120a7af35c2a4fc841c72c672d88bd8928b0e0ac487d3be59c", func := "pawl/pawllaw14.AgreeParses", spec := "agreeParses", inPlace := ["math.Float64frombits", "math.Float64bits", "internal/reflectlite.ValueOf", "(internal/reflectlite.Value).Type", "(internal/reflectlite.Value).IsNil", "internal/reflectlite.TypeOf", "(internal/reflectlite.Value).Elem", "(internal/reflectlite.Value).Set"], unfollowed := true, recurses := true, named := ["unicode/utf8.first", "unicode/utf8.acceptRanges", "errors.errorType"], apart := false, laid := [("unicode/utf8.acceptRanges", laid_unicode_utf8_acceptRanges), ("errors.errorType", laid_errors_errorType), ("unicode/utf8.first", laid_unicode_utf8_first)], narrowed := true }
def AgreeParsesUptoSaid : Prop := agreeParsesUptoRow.holds Tryz.pinned (OpenSpec.upto agreeParsesSpec)

end Rows
end Go.Proofs.YtbaefbfejmpliaaGreatDoor
