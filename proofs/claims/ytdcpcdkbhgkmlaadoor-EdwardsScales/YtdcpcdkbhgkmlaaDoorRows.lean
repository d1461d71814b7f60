/-
  NARROWER THAN 'FOR EVERY INPUT', by the rows' own cells (each row's printed sentence says how): EdwardsScales: laid · EdwardsScalars: laid.
  DERIVED. THE GIVEN ROWS OF THIS SEAT. 2 by the template 'for every input the law returns true; each argument reads behind the call as it read before'; 0 by the template 'total and deterministic' (their statements: YtdcpcdkbhgkmlaaDoorTotals.lean).
  GIVEN WITH THE SEED: the statements are not yours to turn. If you find one false, say at which input.
  Laid BY PROGRAM, IN A SANDBOX (cutbox-rows.mjs): the forced cells as the released guide's own fill.sh prints them over the translation a526a75201e7d345… (all of the seat's roots in one cut). By AI agents, Wed Nov 11 2026. No macro, syntax, notation, axiom, sorry.
-/
import Derived.Test.YtdcpcdkbhgkmlaaDoorChecked
import GoSem.Claim
import GoSem.ClaimJoined
import GoSem.ClaimMapViews
import Derived.JoinedTies
import Derived.KernelRfl
namespace Go.Proofs.YtdcpcdkbhgkmlaaDoor
/- THE CELL 'sum', in the pinned program and in every row, IS THE sha256 OF THE DUMP (.gsa) THAT YtdcpcdkbhgkmlaaDoorProg.lean LOADS. Nothing in Lean hashes anything: it is a label: what it is worth is what the hold of that sum in a sandbox is worth. -/
noncomputable def Tryd.pinned : Pinned := { name := "ytdcpcdkbhgkmlaadoor", sum := "a526a75201e7d345bc6b28ae31ac946c4926385b9eab63bef5dfd8d95e62052e", checked := Tryd.checked }
namespace Rows
def none {H : Type} : Left H := { results := [], args := [] }

/- WHAT THE LISTED PACKAGE-LEVEL VARIABLES READ AS WHEN THE CALL BEGINS. Each datum BY PROGRAM (the guide's laid-datum.mjs) off the statement by which the dump's own 'gosem.cut.vars' lays the variable. In a bare row this is a premise. The card (YtdcpcdkbhgkmlaaDoorCards.lean) ties it to the program's text. -/
def laid_pawl_field_fourfold {H : Type} : DataW H := .agg [.lit (.int .u64 9007199254740916), .lit (.int .u64 9007199254740988), .lit (.int .u64 9007199254740988), .lit (.int .u64 9007199254740988), .lit (.int .u64 9007199254740988)]
def laid_pawl_field_unit {H : Type} : DataW H := .agg [.agg [.lit (.int .u64 1718705420411056), .lit (.int .u64 234908883556509), .lit (.int .u64 2233514472574048), .lit (.int .u64 2117202627021982), .lit (.int .u64 765476049583133)]]
def laid_pawl_edwards_baseX {H : Type} : DataW H := .agg [.lit (.int .u8 26), .lit (.int .u8 213), .lit (.int .u8 37), .lit (.int .u8 143), .lit (.int .u8 96), .lit (.int .u8 45), .lit (.int .u8 86), .lit (.int .u8 201), .lit (.int .u8 178), .lit (.int .u8 167), .lit (.int .u8 37), .lit (.int .u8 149), .lit (.int .u8 96), .lit (.int .u8 199), .lit (.int .u8 44), .lit (.int .u8 105), .lit (.int .u8 92), .lit (.int .u8 220), .lit (.int .u8 214), .lit (.int .u8 253), .lit (.int .u8 49), .lit (.int .u8 226), .lit (.int .u8 164), .lit (.int .u8 192), .lit (.int .u8 254), .lit (.int .u8 83), .lit (.int .u8 110), .lit (.int .u8 205), .lit (.int .u8 211), .lit (.int .u8 54), .lit (.int .u8 105), .lit (.int .u8 33)]
def laid_pawl_edwards_baseY {H : Type} : DataW H := .agg [.lit (.int .u8 88), .lit (.int .u8 102), .lit (.int .u8 102), .lit (.int .u8 102), .lit (.int .u8 102), .lit (.int .u8 102), .lit (.int .u8 102), .lit (.int .u8 102), .lit (.int .u8 102), .lit (.int .u8 102), .lit (.int .u8 102), .lit (.int .u8 102), .lit (.int .u8 102), .lit (.int .u8 102), .lit (.int .u8 102), .lit (.int .u8 102), .lit (.int .u8 102), .lit (.int .u8 102), .lit (.int .u8 102), .lit (.int .u8 102), .lit (.int .u8 102), .lit (.int .u8 102), .lit (.int .u8 102), .lit (.int .u8 102), .lit (.int .u8 102), .lit (.int .u8 102), .lit (.int .u8 102), .lit (.int .u8 102), .lit (.int .u8 102), .lit (.int .u8 102), .lit (.int .u8 102), .lit (.int .u8 102)]
def laid_pawl_edwards_order {H : Type} : DataW H := .agg [.lit (.int .u64 6346243789798364141), .lit (.int .u64 1503914060200516822), .lit (.int .u64 0), .lit (.int .u64 1152921504606846976)]

/-- 'pawllaw19.EdwardsScales': WHATEVER THE INPUT: true; the input reads as it did. -/
def edwardsScalesSpec : ChangeSpec := { name := "edwardsScales", fn := fun _ => fun
  | [d1, d2] => { results := [.lit (.bool true)], args := [d1, d2] }
  | _ => none }
def edwardsScalesRow : OpenClaim := { program := "ytdcpcdkbhgkmlaadoor", sum := "a526a75201e7d345bc6b28ae31ac946c4926385b9eab63bef5dfd8d95e62052e", func := "pawl/pawllaw19.EdwardsScales", spec := "edwardsScales", inPlace := ["math/bits.Add64"], named := ["pawl/field.fourfold", "pawl/field.unit", "pawl/edwards.baseX", "pawl/edwards.baseY"], apart := false, laid := [("pawl/field.fourfold", laid_pawl_field_fourfold), ("pawl/field.unit", laid_pawl_field_unit), ("pawl/edwards.baseX", laid_pawl_edwards_baseX), ("pawl/edwards.baseY", laid_pawl_edwards_baseY)] }
def EdwardsScalesSaid : Prop := edwardsScalesRow.holds Tryd.pinned (OpenSpec.ofChange edwardsScalesSpec)

/-- ITS FALSE NEIGHBOUR: 'it returns false'. Refute it at one input. -/
def edwardsScalesWrong : ChangeSpec := { name := "edwardsScales", fn := fun _ => fun
  | [d1, d2] => { results := [.lit (.bool false)], args := [d1, d2] }
  | _ => none }
def EdwardsScalesWrongFalsely : Prop := edwardsScalesRow.holds Tryd.pinned (OpenSpec.ofChange edwardsScalesWrong)

/-- 'pawllaw19.EdwardsScalars': WHATEVER THE INPUT: true; the input reads as it did. -/
def edwardsScalarsSpec : ChangeSpec := { name := "edwardsScalars", fn := fun _ => fun
  | [d1, d2, d3] => { results := [.lit (.bool true)], args := [d1, d2, d3] }
  | _ => none }
def edwardsScalarsRow : OpenClaim := { program := "ytdcpcdkbhgkmlaadoor", sum := "a526a75201e7d345bc6b28ae31ac946c4926385b9eab63bef5dfd8d95e62052e", func := "pawl/pawllaw19.EdwardsScalars", spec := "edwardsScalars", inPlace := ["math/bits.Add64", "math/bits.Sub64"], named := ["pawl/edwards.order"], apart := false, laid := [("pawl/edwards.order", laid_pawl_edwards_order)] }
def EdwardsScalarsSaid : Prop := edwardsScalarsRow.holds Tryd.pinned (OpenSpec.ofChange edwardsScalarsSpec)

/-- ITS FALSE NEIGHBOUR: 'it returns false'. Refute it at one input. -/
def edwardsScalarsWrong : ChangeSpec := { name := "edwardsScalars", fn := fun _ => fun
  | [d1, d2, d3] => { results := [.lit (.bool false)], args := [d1, d2, d3] }
  | _ => none }
def EdwardsScalarsWrongFalsely : Prop := edwardsScalarsRow.holds Tryd.pinned (OpenSpec.ofChange edwardsScalarsWrong)

/- THE SECOND FORM. 'bulk': how many values and letters a reading holds, each counted each time it is reached (what is shared counts as often as it is met; a slice's spare places count too). A statement '..UptoSaid' is the law's where the arguments, and the package variables that the reading takes, are together of bulk at most 1048576: NARROWER than '..Said'. Prove '..Said' where nothing that the law and all that it calls make is longer than what came in: it says more and counts as full. Else prove '..UptoSaid'. A law counts once. -/
mutual
def uptoBulk {H : Type} : DataW H → Nat
  | .lit (.string bytes) => bytes.length + 1
  | .lit _ => 1
  | .nil => 1
  | .ptr d => uptoBulk d + 1
  | .slice elems spare => uptoBulkAll elems + uptoBulkAll spare + 1
  | .agg parts => uptoBulkAll parts + 1
  | .iface _ d => uptoBulk d + 1
  | .map entries => uptoBulkEntries entries + 1
  | .held _ => 1
def uptoBulkAll {H : Type} : List (DataW H) → Nat
  | [] => 0
  | d :: r => uptoBulk d + uptoBulkAll r
def uptoBulkEntries {H : Type} : List (Lit × DataW H) → Nat
  | [] => 0
  | x :: r => uptoBulkEntry x + uptoBulkEntries r
def uptoBulkEntry {H : Type} : Lit × DataW H → Nat
  | (.string bytes, d) => bytes.length + uptoBulk d + 1
  | (_, d) => uptoBulk d + 1
 end
def uptoSmall : (H : Type) → List (DataW H) → Bool := fun _ ds => decide (uptoBulkAll ds ≤ 1048576)
def OpenSpec.upto (s : _root_.Go.ChangeSpec) : _root_.Go.OpenSpec := { _root_.Go.OpenSpec.ofChange s with cond := some uptoSmall }

/-- 'pawllaw19.EdwardsScales', WHERE WHAT IT READS IS OF BULK AT MOST 1048576: true; the input reads as it did. -/
def edwardsScalesUptoRow : OpenClaim := { program := "ytdcpcdkbhgkmlaadoor", sum := "a526a75201e7d345bc6b28ae31ac946c4926385b9eab63bef5dfd8d95e62052e", func := "pawl/pawllaw19.EdwardsScales", spec := "edwardsScales", inPlace := ["math/bits.Add64"], named := ["pawl/field.fourfold", "pawl/field.unit", "pawl/edwards.baseX", "pawl/edwards.baseY"], apart := false, laid := [("pawl/field.fourfold", laid_pawl_field_fourfold), ("pawl/field.unit", laid_pawl_field_unit), ("pawl/edwards.baseX", laid_pawl_edwards_baseX), ("pawl/edwards.baseY", laid_pawl_edwards_baseY)], narrowed := true }
def EdwardsScalesUptoSaid : Prop := edwardsScalesUptoRow.holds Tryd.pinned (OpenSpec.upto edwardsScalesSpec)

/-- 'pawllaw19.EdwardsScalars', WHERE WHAT IT READS IS OF BULK AT MOST 1048576: true; the input reads as it did. -/
def edwardsScalarsUptoRow : OpenClaim := { program := "ytdcpcdkbhgkmlaadoor", sum := "a526a75201e7d345bc6b28ae31ac946c4926385b9eab63bef5dfd8d95e62052e", func := "pawl/pawllaw19.EdwardsScalars", spec := "edwardsScalars", inPlace := ["math/bits.Add64", "math/bits.Sub64"], named := ["pawl/edwards.order"], apart := false, laid := [("pawl/edwards.order", laid_pawl_edwards_order)], narrowed := true }
def EdwardsScalarsUptoSaid : Prop := edwardsScalarsUptoRow.holds Tryd.pinned (OpenSpec.upto edwardsScalarsSpec)

end Rows
end Go.Proofs.YtdcpcdkbhgkmlaaDoor
