/-
  NARROWER THAN 'FOR EVERY INPUT', by the rows' own cells (each row's printed sentence says how): FieldAll: laid · CurveScales: laid · CurvePublics: laid · CurveShareds: laid · CurvePairs: laid · CurveSides: laid.
  DERIVED. THE GIVEN ROWS OF THIS SEAT. 6 by the template 'for every input the law returns true; each argument reads behind the call as it read before'; 0 by the template 'total and deterministic' (their statements: YtpconccafpcpnaaDoorTotals.lean).
  GIVEN WITH THE SEED: the statements are not yours to turn. If you find one false, say at which input.
  Laid BY PROGRAM, IN A SANDBOX (cutbox-rows.mjs): the forced cells as the released guide's own fill.sh prints them over the translation aeb7587ead1fd805… (all of the seat's roots in one cut). By AI agents, Wed Nov 11 2026. No macro, syntax, notation, axiom, sorry.
-/
import Derived.Test.YtpconccafpcpnaaDoorChecked
import GoSem.Claim
import GoSem.ClaimJoined
import GoSem.ClaimMapViews
import Derived.JoinedTies
import Derived.KernelRfl
namespace Go.Proofs.YtpconccafpcpnaaDoor
/- THE CELL 'sum', in the pinned program and in every row, IS THE sha256 OF THE DUMP (.gsa) THAT YtpconccafpcpnaaDoorProg.lean LOADS. Nothing in Lean hashes anything: it is a label: what it is worth is what the hold of that sum in a sandbox is worth. -/
noncomputable def Tryd.pinned : Pinned := { name := "ytpconccafpcpnaadoor", sum := "aeb7587ead1fd80501fae37d3e7bad7f93a8e215db5e1f0f5b173081cd1a1e36", checked := Tryd.checked }
namespace Rows
def none {H : Type} : Left H := { results := [], args := [] }

/- WHAT THE LISTED PACKAGE-LEVEL VARIABLES READ AS WHEN THE CALL BEGINS. Each datum BY PROGRAM (the guide's laid-datum.mjs) off the statement by which the dump's own 'gosem.cut.vars' lays the variable. In a bare row this is a premise. The card (YtpconccafpcpnaaDoorCards.lean) ties it to the program's text. -/
def laid_pawl_field_fourfold {H : Type} : DataW H := .agg [.lit (.int .u64 9007199254740916), .lit (.int .u64 9007199254740988), .lit (.int .u64 9007199254740988), .lit (.int .u64 9007199254740988), .lit (.int .u64 9007199254740988)]
def laid_pawl_field_unit {H : Type} : DataW H := .agg [.agg [.lit (.int .u64 1718705420411056), .lit (.int .u64 234908883556509), .lit (.int .u64 2233514472574048), .lit (.int .u64 2117202627021982), .lit (.int .u64 765476049583133)]]

/-- 'pawllaw01.FieldAll': WHATEVER THE INPUT: true; the input reads as it did. -/
def fieldAllSpec : ChangeSpec := { name := "fieldAll", fn := fun _ => fun
  | [d] => { results := [.lit (.bool true)], args := [d] }
  | _ => none }
def fieldAllRow : OpenClaim := { program := "ytpconccafpcpnaadoor", sum := "aeb7587ead1fd80501fae37d3e7bad7f93a8e215db5e1f0f5b173081cd1a1e36", func := "pawl/pawllaw01.FieldAll", spec := "fieldAll", inPlace := ["math/bits.Add64"], named := ["pawl/field.fourfold", "pawl/field.unit"], apart := false, laid := [("pawl/field.fourfold", laid_pawl_field_fourfold), ("pawl/field.unit", laid_pawl_field_unit)] }
def FieldAllSaid : Prop := fieldAllRow.holds Tryd.pinned (OpenSpec.ofChange fieldAllSpec)

/-- ITS FALSE NEIGHBOUR: 'it returns false'. Refute it at one input. -/
def fieldAllWrong : ChangeSpec := { name := "fieldAll", fn := fun _ => fun
  | [d] => { results := [.lit (.bool false)], args := [d] }
  | _ => none }
def FieldAllWrongFalsely : Prop := fieldAllRow.holds Tryd.pinned (OpenSpec.ofChange fieldAllWrong)

/-- 'pawllaw02.CurveScales': WHATEVER THE INPUT: true; the input reads as it did. -/
def curveScalesSpec : ChangeSpec := { name := "curveScales", fn := fun _ => fun
  | [d1, d2] => { results := [.lit (.bool true)], args := [d1, d2] }
  | _ => none }
def curveScalesRow : OpenClaim := { program := "ytpconccafpcpnaadoor", sum := "aeb7587ead1fd80501fae37d3e7bad7f93a8e215db5e1f0f5b173081cd1a1e36", func := "pawl/pawllaw02.CurveScales", spec := "curveScales", inPlace := ["math/bits.Add64"], unfollowed := true, recurses := true, named := ["pawl/field.fourfold"], apart := false, laid := [("pawl/field.fourfold", laid_pawl_field_fourfold)] }
def CurveScalesSaid : Prop := curveScalesRow.holds Tryd.pinned (OpenSpec.ofChange curveScalesSpec)

/-- ITS FALSE NEIGHBOUR: 'it returns false'. Refute it at one input. -/
def curveScalesWrong : ChangeSpec := { name := "curveScales", fn := fun _ => fun
  | [d1, d2] => { results := [.lit (.bool false)], args := [d1, d2] }
  | _ => none }
def CurveScalesWrongFalsely : Prop := curveScalesRow.holds Tryd.pinned (OpenSpec.ofChange curveScalesWrong)

/-- 'pawllaw02.CurvePublics': WHATEVER THE INPUT: true; the input reads as it did. -/
def curvePublicsSpec : ChangeSpec := { name := "curvePublics", fn := fun _ => fun
  | [d] => { results := [.lit (.bool true)], args := [d] }
  | _ => none }
def curvePublicsRow : OpenClaim := { program := "ytpconccafpcpnaadoor", sum := "aeb7587ead1fd80501fae37d3e7bad7f93a8e215db5e1f0f5b173081cd1a1e36", func := "pawl/pawllaw02.CurvePublics", spec := "curvePublics", inPlace := ["math/bits.Add64"], unfollowed := true, recurses := true, named := ["pawl/field.fourfold"], apart := false, laid := [("pawl/field.fourfold", laid_pawl_field_fourfold)] }
def CurvePublicsSaid : Prop := curvePublicsRow.holds Tryd.pinned (OpenSpec.ofChange curvePublicsSpec)

/-- ITS FALSE NEIGHBOUR: 'it returns false'. Refute it at one input. -/
def curvePublicsWrong : ChangeSpec := { name := "curvePublics", fn := fun _ => fun
  | [d] => { results := [.lit (.bool false)], args := [d] }
  | _ => none }
def CurvePublicsWrongFalsely : Prop := curvePublicsRow.holds Tryd.pinned (OpenSpec.ofChange curvePublicsWrong)

/-- 'pawllaw02.CurveShareds': WHATEVER THE INPUT: true; the input reads as it did. -/
def curveSharedsSpec : ChangeSpec := { name := "curveShareds", fn := fun _ => fun
  | [d1, d2] => { results := [.lit (.bool true)], args := [d1, d2] }
  | _ => none }
def curveSharedsRow : OpenClaim := { program := "ytpconccafpcpnaadoor", sum := "aeb7587ead1fd80501fae37d3e7bad7f93a8e215db5e1f0f5b173081cd1a1e36", func := "pawl/pawllaw02.CurveShareds", spec := "curveShareds", inPlace := ["math/bits.Add64"], unfollowed := true, recurses := true, named := ["pawl/field.fourfold"], apart := false, laid := [("pawl/field.fourfold", laid_pawl_field_fourfold)] }
def CurveSharedsSaid : Prop := curveSharedsRow.holds Tryd.pinned (OpenSpec.ofChange curveSharedsSpec)

/-- ITS FALSE NEIGHBOUR: 'it returns false'. Refute it at one input. -/
def curveSharedsWrong : ChangeSpec := { name := "curveShareds", fn := fun _ => fun
  | [d1, d2] => { results := [.lit (.bool false)], args := [d1, d2] }
  | _ => none }
def CurveSharedsWrongFalsely : Prop := curveSharedsRow.holds Tryd.pinned (OpenSpec.ofChange curveSharedsWrong)

/-- 'pawllaw02.CurvePairs': WHATEVER THE INPUT: true; the input reads as it did. -/
def curvePairsSpec : ChangeSpec := { name := "curvePairs", fn := fun _ => fun
  | [d] => { results := [.lit (.bool true)], args := [d] }
  | _ => none }
def curvePairsRow : OpenClaim := { program := "ytpconccafpcpnaadoor", sum := "aeb7587ead1fd80501fae37d3e7bad7f93a8e215db5e1f0f5b173081cd1a1e36", func := "pawl/pawllaw02.CurvePairs", spec := "curvePairs", inPlace := ["math/bits.Add64"], unfollowed := true, recurses := true, named := ["pawl/field.fourfold"], apart := false, laid := [("pawl/field.fourfold", laid_pawl_field_fourfold)] }
def CurvePairsSaid : Prop := curvePairsRow.holds Tryd.pinned (OpenSpec.ofChange curvePairsSpec)

/-- ITS FALSE NEIGHBOUR: 'it returns false'. Refute it at one input. -/
def curvePairsWrong : ChangeSpec := { name := "curvePairs", fn := fun _ => fun
  | [d] => { results := [.lit (.bool false)], args := [d] }
  | _ => none }
def CurvePairsWrongFalsely : Prop := curvePairsRow.holds Tryd.pinned (OpenSpec.ofChange curvePairsWrong)

/-- 'pawllaw02.CurveSides': WHATEVER THE INPUT: true; the input reads as it did. -/
def curveSidesSpec : ChangeSpec := { name := "curveSides", fn := fun _ => fun
  | [d1, d2] => { results := [.lit (.bool true)], args := [d1, d2] }
  | _ => none }
def curveSidesRow : OpenClaim := { program := "ytpconccafpcpnaadoor", sum := "aeb7587ead1fd80501fae37d3e7bad7f93a8e215db5e1f0f5b173081cd1a1e36", func := "pawl/pawllaw02.CurveSides", spec := "curveSides", inPlace := ["math/bits.Add64"], unfollowed := true, recurses := true, named := ["pawl/field.fourfold", "pawl/field.unit"], apart := false, laid := [("pawl/field.fourfold", laid_pawl_field_fourfold), ("pawl/field.unit", laid_pawl_field_unit)] }
def CurveSidesSaid : Prop := curveSidesRow.holds Tryd.pinned (OpenSpec.ofChange curveSidesSpec)

/-- ITS FALSE NEIGHBOUR: 'it returns false'. Refute it at one input. -/
def curveSidesWrong : ChangeSpec := { name := "curveSides", fn := fun _ => fun
  | [d1, d2] => { results := [.lit (.bool false)], args := [d1, d2] }
  | _ => none }
def CurveSidesWrongFalsely : Prop := curveSidesRow.holds Tryd.pinned (OpenSpec.ofChange curveSidesWrong)

/- THE SECOND FORM. 'bulk': how many values and letters a reading holds, each counted each time it is reached (what is shared counts as often as it is met; a slice's spare places count too). A statement '..UptoSaid' is the law's where the arguments, and the package variables that the reading takes, are together of bulk at most 1048576: NARROWER than '..Said'. Prove '..Said' where nothing that the law and all that it calls make is longer than what came in: it says more and counts as full. Else prove '..UptoSaid'. A law counts once. -/
mutual
def uptoBulk {H : Type} : DataW H → Nat
  | .lit (.string bytes) => bytes.length + 1
  | .lit _ => 1
  | .nil => 1
  | .ptr d => uptoBulk d + 1
  | .slice elems spare => uptoBulkAll elems + uptoBulkAll spare + 1
  | .agg parts => uptoBulkAll parts + 1
  | .iface _ d => uptoBulk d + 1
  | .map entries => uptoBulkEntries entries + 1
  | .held _ => 1
def uptoBulkAll {H : Type} : List (DataW H) → Nat
  | [] => 0
  | d :: r => uptoBulk d + uptoBulkAll r
def uptoBulkEntries {H : Type} : List (Lit × DataW H) → Nat
  | [] => 0
  | x :: r => uptoBulkEntry x + uptoBulkEntries r
def uptoBulkEntry {H : Type} : Lit × DataW H → Nat
  | (.string bytes, d) => bytes.length + uptoBulk d + 1
  | (_, d) => uptoBulk d + 1
 end
def uptoSmall : (H : Type) → List (DataW H) → Bool := fun _ ds => decide (uptoBulkAll ds ≤ 1048576)
def OpenSpec.upto (s : _root_.Go.ChangeSpec) : _root_.Go.OpenSpec := { _root_.Go.OpenSpec.ofChange s with cond := some uptoSmall }

/-- 'pawllaw01.FieldAll', WHERE WHAT IT READS IS OF BULK AT MOST 1048576: true; the input reads as it did. -/
def fieldAllUptoRow : OpenClaim := { program := "ytpconccafpcpnaadoor", sum := "aeb7587ead1fd80501fae37d3e7bad7f93a8e215db5e1f0f5b173081cd1a1e36", func := "pawl/pawllaw01.FieldAll", spec := "fieldAll", inPlace := ["math/bits.Add64"], named := ["pawl/field.fourfold", "pawl/field.unit"], apart := false, laid := [("pawl/field.fourfold", laid_pawl_field_fourfold), ("pawl/field.unit", laid_pawl_field_unit)], narrowed := true }
def FieldAllUptoSaid : Prop := fieldAllUptoRow.holds Tryd.pinned (OpenSpec.upto fieldAllSpec)

/-- 'pawllaw02.CurveScales', WHERE WHAT IT READS IS OF BULK AT MOST 1048576: true; the input reads as it did. -/
def curveScalesUptoRow : OpenClaim := { program := "ytpconccafpcpnaadoor", sum := "aeb7587ead1fd80501fae37d3e7bad7f93a8e215db5e1f0f5b173081cd1a1e36", func := "pawl/pawllaw02.CurveScales", spec := "curveScales", inPlace := ["math/bits.Add64"], unfollowed := true, recurses := true, named := ["pawl/field.fourfold"], apart := false, laid := [("pawl/field.fourfold", laid_pawl_field_fourfold)], narrowed := true }
def CurveScalesUptoSaid : Prop := curveScalesUptoRow.holds Tryd.pinned (OpenSpec.upto curveScalesSpec)

/-- 'pawllaw02.CurvePublics', WHERE WHAT IT READS IS OF BULK AT MOST 1048576: true; the input reads as it did. -/
def curvePublicsUptoRow : OpenClaim := { program := "ytpconccafpcpnaadoor", sum := "aeb7587ead1fd80501fae37d3e7bad7f93a8e215db5e1f0f5b173081cd1a1e36", func := "pawl/pawllaw02.CurvePublics", spec := "curvePublics", inPlace := ["math/bits.Add64"], unfollowed := true, recurses := true, named := ["pawl/field.fourfold"], apart := false, laid := [("pawl/field.fourfold", laid_pawl_field_fourfold)], narrowed := true }
def CurvePublicsUptoSaid : Prop := curvePublicsUptoRow.holds Tryd.pinned (OpenSpec.upto curvePublicsSpec)

/-- 'pawllaw02.CurveShareds', WHERE WHAT IT READS IS OF BULK AT MOST 1048576: true; the input reads as it did. -/
def curveSharedsUptoRow : OpenClaim := { program := "ytpconccafpcpnaadoor", sum := "aeb7587ead1fd80501fae37d3e7bad7f93a8e215db5e1f0f5b173081cd1a1e36", func := "pawl/pawllaw02.CurveShareds", spec := "curveShareds", inPlace := ["math/bits.Add64"], unfollowed := true, recurses := true, named := ["pawl/field.fourfold"], apart := false, laid := [("pawl/field.fourfold", laid_pawl_field_fourfold)], narrowed := true }
def CurveSharedsUptoSaid : Prop := curveSharedsUptoRow.holds Tryd.pinned (OpenSpec.upto curveSharedsSpec)

/-- 'pawllaw02.CurvePairs', WHERE WHAT IT READS IS OF BULK AT MOST 1048576: true; the input reads as it did. -/
def curvePairsUptoRow : OpenClaim := { program := "ytpconccafpcpnaadoor", sum := "aeb7587ead1fd80501fae37d3e7bad7f93a8e215db5e1f0f5b173081cd1a1e36", func := "pawl/pawllaw02.CurvePairs", spec := "curvePairs", inPlace := ["math/bits.Add64"], unfollowed := true, recurses := true, named := ["pawl/field.fourfold"], apart := false, laid := [("pawl/field.fourfold", laid_pawl_field_fourfold)], narrowed := true }
def CurvePairsUptoSaid : Prop := curvePairsUptoRow.holds Tryd.pinned (OpenSpec.upto curvePairsSpec)

/-- 'pawllaw02.CurveSides', WHERE WHAT IT READS IS OF BULK AT MOST 1048576: true; the input reads as it did. -/
def curveSidesUptoRow : OpenClaim := { program := "ytpconccafpcpnaadoor", sum := "aeb7587ead1fd80501fae37d3e7bad7f93a8e215db5e1f0f5b173081cd1a1e36", func := "pawl/pawllaw02.CurveSides", spec := "curveSides", inPlace := ["math/bits.Add64"], unfollowed := true, recurses := true, named := ["pawl/field.fourfold", "pawl/field.unit"], apart := false, laid := [("pawl/field.fourfold", laid_pawl_field_fourfold), ("pawl/field.unit", laid_pawl_field_unit)], narrowed := true }
def CurveSidesUptoSaid : Prop := curveSidesUptoRow.holds Tryd.pinned (OpenSpec.upto curveSidesSpec)

end Rows
end Go.Proofs.YtpconccafpcpnaaDoor
