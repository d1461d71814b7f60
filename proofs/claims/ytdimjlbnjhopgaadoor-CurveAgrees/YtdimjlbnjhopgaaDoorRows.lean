/-
  NARROWER THAN 'FOR EVERY INPUT', by the rows' own cells (each row's printed sentence says how): CurveVectors: laid · CurveForms: laid · CurveTurns: laid · CurveAgrees: laid · CurveMultiples: laid · CurveWeak: laid.
  DERIVED. THE GIVEN ROWS OF THIS SEAT. 6 by the template 'for every input the law returns true; each argument reads behind the call as it read before'; 0 by the template 'total and deterministic' (their statements: YtdimjlbnjhopgaaDoorTotals.lean).
  GIVEN WITH THE SEED: the statements are not yours to turn. If you find one false, say at which input.
  Laid BY PROGRAM, IN A SANDBOX (cutbox-rows.mjs): the forced cells as the released guide's own fill.sh prints them over the translation c2febbf62e0beaec… (all of the seat's roots in one cut). By AI agents, Wed Nov 11 2026. No macro, syntax, notation, axiom, sorry.
-/
import Derived.Test.YtdimjlbnjhopgaaDoorChecked
import GoSem.Claim
import GoSem.ClaimJoined
import GoSem.ClaimMapViews
import Derived.JoinedTies
import Derived.KernelRfl
namespace Go.Proofs.YtdimjlbnjhopgaaDoor
/- THE CELL 'sum', in the pinned program and in every row, IS THE sha256 OF THE DUMP (.gsa) THAT YtdimjlbnjhopgaaDoorProg.lean LOADS. Nothing in Lean hashes anything: it is a label: what it is worth is what the hold of that sum in a sandbox is worth. -/
noncomputable def Tryd.pinned : Pinned := { name := "ytdimjlbnjhopgaadoor", sum := "c2febbf62e0beaec172cc782e8e11a6ee7cec7792b15e8902d05dee4d68bc761", checked := Tryd.checked }
namespace Rows
def none {H : Type} : Left H := { results := [], args := [] }

/- WHAT THE LISTED PACKAGE-LEVEL VARIABLES READ AS WHEN THE CALL BEGINS. Each datum BY PROGRAM (the guide's laid-datum.mjs) off the statement by which the dump's own 'gosem.cut.vars' lays the variable. In a bare row this is a premise. The card (YtdimjlbnjhopgaaDoorCards.lean) ties it to the program's text. -/
def laid_pawl_field_fourfold {H : Type} : DataW H := .agg [.lit (.int .u64 9007199254740916), .lit (.int .u64 9007199254740988), .lit (.int .u64 9007199254740988), .lit (.int .u64 9007199254740988), .lit (.int .u64 9007199254740988)]

/-- 'pawllaw02.CurveVectors': WHATEVER THE INPUT: true; the input reads as it did. -/
def curveVectorsSpec : ChangeSpec := { name := "curveVectors", fn := fun _ => fun
  | [] => { results := [.lit (.bool true)], args := [] }
  | _ => none }
def curveVectorsRow : OpenClaim := { program := "ytdimjlbnjhopgaadoor", sum := "c2febbf62e0beaec172cc782e8e11a6ee7cec7792b15e8902d05dee4d68bc761", func := "pawl/pawllaw02.CurveVectors", spec := "curveVectors", inPlace := ["math/bits.Add64"], unfollowed := true, recurses := true, named := ["pawl/field.fourfold"], apart := false, laid := [("pawl/field.fourfold", laid_pawl_field_fourfold)] }
def CurveVectorsSaid : Prop := curveVectorsRow.holds Tryd.pinned (OpenSpec.ofChange curveVectorsSpec)

/-- ITS FALSE NEIGHBOUR: 'it returns false'. Refute it at one input. -/
def curveVectorsWrong : ChangeSpec := { name := "curveVectors", fn := fun _ => fun
  | [] => { results := [.lit (.bool false)], args := [] }
  | _ => none }
def CurveVectorsWrongFalsely : Prop := curveVectorsRow.holds Tryd.pinned (OpenSpec.ofChange curveVectorsWrong)

/-- 'pawllaw02.CurveForms': WHATEVER THE INPUT: true; the input reads as it did. -/
def curveFormsSpec : ChangeSpec := { name := "curveForms", fn := fun _ => fun
  | [d1, d2] => { results := [.lit (.bool true)], args := [d1, d2] }
  | _ => none }
def curveFormsRow : OpenClaim := { program := "ytdimjlbnjhopgaadoor", sum := "c2febbf62e0beaec172cc782e8e11a6ee7cec7792b15e8902d05dee4d68bc761", func := "pawl/pawllaw02.CurveForms", spec := "curveForms", inPlace := ["math/bits.Add64"], unfollowed := true, recurses := true, named := ["pawl/field.fourfold"], apart := false, laid := [("pawl/field.fourfold", laid_pawl_field_fourfold)] }
def CurveFormsSaid : Prop := curveFormsRow.holds Tryd.pinned (OpenSpec.ofChange curveFormsSpec)

/-- ITS FALSE NEIGHBOUR: 'it returns false'. Refute it at one input. -/
def curveFormsWrong : ChangeSpec := { name := "curveForms", fn := fun _ => fun
  | [d1, d2] => { results := [.lit (.bool false)], args := [d1, d2] }
  | _ => none }
def CurveFormsWrongFalsely : Prop := curveFormsRow.holds Tryd.pinned (OpenSpec.ofChange curveFormsWrong)

/-- 'pawllaw02.CurveTurns': WHATEVER THE INPUT: true; the input reads as it did. -/
def curveTurnsSpec : ChangeSpec := { name := "curveTurns", fn := fun _ => fun
  | [d1, d2, d3] => { results := [.lit (.bool true)], args := [d1, d2, d3] }
  | _ => none }
def curveTurnsRow : OpenClaim := { program := "ytdimjlbnjhopgaadoor", sum := "c2febbf62e0beaec172cc782e8e11a6ee7cec7792b15e8902d05dee4d68bc761", func := "pawl/pawllaw02.CurveTurns", spec := "curveTurns", inPlace := ["math/bits.Add64"], unfollowed := true, recurses := true, named := ["pawl/field.fourfold"], apart := false, laid := [("pawl/field.fourfold", laid_pawl_field_fourfold)] }
def CurveTurnsSaid : Prop := curveTurnsRow.holds Tryd.pinned (OpenSpec.ofChange curveTurnsSpec)

/-- ITS FALSE NEIGHBOUR: 'it returns false'. Refute it at one input. -/
def curveTurnsWrong : ChangeSpec := { name := "curveTurns", fn := fun _ => fun
  | [d1, d2, d3] => { results := [.lit (.bool false)], args := [d1, d2, d3] }
  | _ => none }
def CurveTurnsWrongFalsely : Prop := curveTurnsRow.holds Tryd.pinned (OpenSpec.ofChange curveTurnsWrong)

/-- 'pawllaw02.CurveAgrees': WHATEVER THE INPUT: true; the input reads as it did. -/
def curveAgreesSpec : ChangeSpec := { name := "curveAgrees", fn := fun _ => fun
  | [d1, d2] => { results := [.lit (.bool true)], args := [d1, d2] }
  | _ => none }
def curveAgreesRow : OpenClaim := { program := "ytdimjlbnjhopgaadoor", sum := "c2febbf62e0beaec172cc782e8e11a6ee7cec7792b15e8902d05dee4d68bc761", func := "pawl/pawllaw02.CurveAgrees", spec := "curveAgrees", inPlace := ["math/bits.Add64"], unfollowed := true, recurses := true, named := ["pawl/field.fourfold"], apart := false, laid := [("pawl/field.fourfold", laid_pawl_field_fourfold)] }
def CurveAgreesSaid : Prop := curveAgreesRow.holds Tryd.pinned (OpenSpec.ofChange curveAgreesSpec)

/-- ITS FALSE NEIGHBOUR: 'it returns false'. Refute it at one input. -/
def curveAgreesWrong : ChangeSpec := { name := "curveAgrees", fn := fun _ => fun
  | [d1, d2] => { results := [.lit (.bool false)], args := [d1, d2] }
  | _ => none }
def CurveAgreesWrongFalsely : Prop := curveAgreesRow.holds Tryd.pinned (OpenSpec.ofChange curveAgreesWrong)

/-- 'pawllaw02.CurveMultiples': WHATEVER THE INPUT: true; the input reads as it did. -/
def curveMultiplesSpec : ChangeSpec := { name := "curveMultiples", fn := fun _ => fun
  | [d1, d2] => { results := [.lit (.bool true)], args := [d1, d2] }
  | _ => none }
def curveMultiplesRow : OpenClaim := { program := "ytdimjlbnjhopgaadoor", sum := "c2febbf62e0beaec172cc782e8e11a6ee7cec7792b15e8902d05dee4d68bc761", func := "pawl/pawllaw02.CurveMultiples", spec := "curveMultiples", inPlace := ["math/bits.Add64"], unfollowed := true, recurses := true, named := ["pawl/field.fourfold"], apart := false, laid := [("pawl/field.fourfold", laid_pawl_field_fourfold)] }
def CurveMultiplesSaid : Prop := curveMultiplesRow.holds Tryd.pinned (OpenSpec.ofChange curveMultiplesSpec)

/-- ITS FALSE NEIGHBOUR: 'it returns false'. Refute it at one input. -/
def curveMultiplesWrong : ChangeSpec := { name := "curveMultiples", fn := fun _ => fun
  | [d1, d2] => { results := [.lit (.bool false)], args := [d1, d2] }
  | _ => none }
def CurveMultiplesWrongFalsely : Prop := curveMultiplesRow.holds Tryd.pinned (OpenSpec.ofChange curveMultiplesWrong)

/-- 'pawllaw02.CurveWeak': WHATEVER THE INPUT: true; the input reads as it did. -/
def curveWeakSpec : ChangeSpec := { name := "curveWeak", fn := fun _ => fun
  | [d1, d2] => { results := [.lit (.bool true)], args := [d1, d2] }
  | _ => none }
def curveWeakRow : OpenClaim := { program := "ytdimjlbnjhopgaadoor", sum := "c2febbf62e0beaec172cc782e8e11a6ee7cec7792b15e8902d05dee4d68bc761", func := "pawl/pawllaw02.CurveWeak", spec := "curveWeak", inPlace := ["math/bits.Add64"], unfollowed := true, recurses := true, named := ["pawl/field.fourfold"], apart := false, laid := [("pawl/field.fourfold", laid_pawl_field_fourfold)] }
def CurveWeakSaid : Prop := curveWeakRow.holds Tryd.pinned (OpenSpec.ofChange curveWeakSpec)

/-- ITS FALSE NEIGHBOUR: 'it returns false'. Refute it at one input. -/
def curveWeakWrong : ChangeSpec := { name := "curveWeak", fn := fun _ => fun
  | [d1, d2] => { results := [.lit (.bool false)], args := [d1, d2] }
  | _ => none }
def CurveWeakWrongFalsely : Prop := curveWeakRow.holds Tryd.pinned (OpenSpec.ofChange curveWeakWrong)

/- THE SECOND FORM. 'bulk': how many values and letters a reading holds, each counted each time it is reached (what is shared counts as often as it is met; a slice's spare places count too). A statement '..UptoSaid' is the law's where the arguments, and the package variables that the reading takes, are together of bulk at most 1048576: NARROWER than '..Said'. Prove '..Said' where nothing that the law and all that it calls make is longer than what came in: it says more and counts as full. Else prove '..UptoSaid'. A law counts once. -/
mutual
def uptoBulk {H : Type} : DataW H → Nat
  | .lit (.string bytes) => bytes.length + 1
  | .lit _ => 1
  | .nil => 1
  | .ptr d => uptoBulk d + 1
  | .slice elems spare => uptoBulkAll elems + uptoBulkAll spare + 1
  | .agg parts => uptoBulkAll parts + 1
  | .iface _ d => uptoBulk d + 1
  | .map entries => uptoBulkEntries entries + 1
  | .held _ => 1
def uptoBulkAll {H : Type} : List (DataW H) → Nat
  | [] => 0
  | d :: r => uptoBulk d + uptoBulkAll r
def uptoBulkEntries {H : Type} : List (Lit × DataW H) → Nat
  | [] => 0
  | x :: r => uptoBulkEntry x + uptoBulkEntries r
def uptoBulkEntry {H : Type} : Lit × DataW H → Nat
  | (.string bytes, d) => bytes.length + uptoBulk d + 1
  | (_, d) => uptoBulk d + 1
 end
def uptoSmall : (H : Type) → List (DataW H) → Bool := fun _ ds => decide (uptoBulkAll ds ≤ 1048576)
def OpenSpec.upto (s : _root_.Go.ChangeSpec) : _root_.Go.OpenSpec := { _root_.Go.OpenSpec.ofChange s with cond := some uptoSmall }

/-- 'pawllaw02.CurveVectors', WHERE WHAT IT READS IS OF BULK AT MOST 1048576: true; the input reads as it did. -/
def curveVectorsUptoRow : OpenClaim := { program := "ytdimjlbnjhopgaadoor", sum := "c2febbf62e0beaec172cc782e8e11a6ee7cec7792b15e8902d05dee4d68bc761", func := "pawl/pawllaw02.CurveVectors", spec := "curveVectors", inPlace := ["math/bits.Add64"], unfollowed := true, recurses := true, named := ["pawl/field.fourfold"], apart := false, laid := [("pawl/field.fourfold", laid_pawl_field_fourfold)], narrowed := true }
def CurveVectorsUptoSaid : Prop := curveVectorsUptoRow.holds Tryd.pinned (OpenSpec.upto curveVectorsSpec)

/-- 'pawllaw02.CurveForms', WHERE WHAT IT READS IS OF BULK AT MOST 1048576: true; the input reads as it did. -/
def curveFormsUptoRow : OpenClaim := { program := "ytdimjlbnjhopgaadoor", sum := "c2febbf62e0beaec172cc782e8e11a6ee7cec7792b15e8902d05dee4d68bc761", func := "pawl/pawllaw02.CurveForms", spec := "curveForms", inPlace := ["math/bits.Add64"], unfollowed := true, recurses := true, named := ["pawl/field.fourfold"], apart := false, laid := [("pawl/field.fourfold", laid_pawl_field_fourfold)], narrowed := true }
def CurveFormsUptoSaid : Prop := curveFormsUptoRow.holds Tryd.pinned (OpenSpec.upto curveFormsSpec)

/-- 'pawllaw02.CurveTurns', WHERE WHAT IT READS IS OF BULK AT MOST 1048576: true; the input reads as it did. -/
def curveTurnsUptoRow : OpenClaim := { program := "ytdimjlbnjhopgaadoor", sum := "c2febbf62e0beaec172cc782e8e11a6ee7cec7792b15e8902d05dee4d68bc761", func := "pawl/pawllaw02.CurveTurns", spec := "curveTurns", inPlace := ["math/bits.Add64"], unfollowed := true, recurses := true, named := ["pawl/field.fourfold"], apart := false, laid := [("pawl/field.fourfold", laid_pawl_field_fourfold)], narrowed := true }
def CurveTurnsUptoSaid : Prop := curveTurnsUptoRow.holds Tryd.pinned (OpenSpec.upto curveTurnsSpec)

/-- 'pawllaw02.CurveAgrees', WHERE WHAT IT READS IS OF BULK AT MOST 1048576: true; the input reads as it did. -/
def curveAgreesUptoRow : OpenClaim := { program := "ytdimjlbnjhopgaadoor", sum := "c2febbf62e0beaec172cc782e8e11a6ee7cec7792b15e8902d05dee4d68bc761", func := "pawl/pawllaw02.CurveAgrees", spec := "curveAgrees", inPlace := ["math/bits.Add64"], unfollowed := true, recurses := true, named := ["pawl/field.fourfold"], apart := false, laid := [("pawl/field.fourfold", laid_pawl_field_fourfold)], narrowed := true }
def CurveAgreesUptoSaid : Prop := curveAgreesUptoRow.holds Tryd.pinned (OpenSpec.upto curveAgreesSpec)

/-- 'pawllaw02.CurveMultiples', WHERE WHAT IT READS IS OF BULK AT MOST 1048576: true; the input reads as it did. -/
def curveMultiplesUptoRow : OpenClaim := { program := "ytdimjlbnjhopgaadoor", sum := "c2febbf62e0beaec172cc782e8e11a6ee7cec7792b15e8902d05dee4d68bc761", func := "pawl/pawllaw02.CurveMultiples", spec := "curveMultiples", inPlace := ["math/bits.Add64"], unfollowed := true, recurses := true, named := ["pawl/field.fourfold"], apart := false, laid := [("pawl/field.fourfold", laid_pawl_field_fourfold)], narrowed := true }
def CurveMultiplesUptoSaid : Prop := curveMultiplesUptoRow.holds Tryd.pinned (OpenSpec.upto curveMultiplesSpec)

/-- 'pawllaw02.CurveWeak', WHERE WHAT IT READS IS OF BULK AT MOST 1048576: true; the input reads as it did. -/
def curveWeakUptoRow : OpenClaim := { program := "ytdimjlbnjhopgaadoor", sum := "c2febbf62e0beaec172cc782e8e11a6ee7cec7792b15e8902d05dee4d68bc761", func := "pawl/pawllaw02.CurveWeak", spec := "curveWeak", inPlace := ["math/bits.Add64"], unfollowed := true, recurses := true, named := ["pawl/field.fourfold"], apart := false, laid := [("pawl/field.fourfold", laid_pawl_field_fourfold)], narrowed := true }
def CurveWeakUptoSaid : Prop := curveWeakUptoRow.holds Tryd.pinned (OpenSpec.upto curveWeakSpec)

end Rows
end Go.Proofs.YtdimjlbnjhopgaaDoor
