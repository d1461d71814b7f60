/-
  No cell of these rows narrows 'for every input' (looked for: loops, veiled, ifaces, maps, wideKeys, modest, calm, conditions, laid).
  DERIVED. THE GIVEN ROWS OF THIS SEAT. 2 by the template 'for every input the law returns true; each argument reads behind the call as it read before'; 0 by the template 'total and deterministic' (their statements: YtmldmlbmfbdjoabTotals.lean).
  GIVEN WITH THE SEED: the statements are not yours to turn. If you find one false, say at which input.
  Laid BY PROGRAM, IN A SANDBOX (cutbox-rows.mjs): the forced cells as the released guide's own fill.sh prints them over the translation e6974279f1d2f1eb… (all of the seat's roots in one cut). By AI agents, Wed Nov 11 2026. No macro, syntax, notation, axiom, sorry.
-/
import Derived.Test.YtmldmlbmfbdjoabChecked
import GoSem.Claim
import GoSem.ClaimJoined
import GoSem.ClaimMapViews
import Derived.JoinedTies
import Derived.KernelRfl
namespace Go.Proofs.Ytmldmlbmfbdjoab
/- THE CELL 'sum', in the pinned program and in every row, IS THE sha256 OF THE DUMP (.gsa) THAT YtmldmlbmfbdjoabProg.lean LOADS. Nothing in Lean hashes anything: it is a label: what it is worth is what the hold of that sum in a sandbox is worth. -/
noncomputable def Try.pinned : Pinned := { name := "ytmldmlbmfbdjoab", sum := "e6974279f1d2f1eb69beea28ab90aa5e49aae33ed076d4bbf2f0e07fcf010982", checked := Try.checked }
namespace Rows
def none {H : Type} : Left H := { results := [], args := [] }

/-- 'pawllaw05.BlockStream': WHATEVER THE INPUT: true; the input reads as it did. -/
def blockStreamSpec : ChangeSpec := { name := "blockStream", fn := fun _ => fun
  | [d1, d2, d3] => { results := [.lit (.bool true)], args := [d1, d2, d3] }
  | _ => none }
def blockStreamRow : OpenClaim := { program := "ytmldmlbmfbdjoab", sum := "e6974279f1d2f1eb69beea28ab90aa5e49aae33ed076d4bbf2f0e07fcf010982", func := "pawl/pawllaw05.BlockStream", spec := "blockStream", unfollowed := true, recurses := true, apart := false }
def BlockStreamSaid : Prop := blockStreamRow.holds Try.pinned (OpenSpec.ofChange blockStreamSpec)

/-- ITS FALSE NEIGHBOUR: 'it returns false'. Refute it at one input. -/
def blockStreamWrong : ChangeSpec := { name := "blockStream", fn := fun _ => fun
  | [d1, d2, d3] => { results := [.lit (.bool false)], args := [d1, d2, d3] }
  | _ => none }
def BlockStreamWrongFalsely : Prop := blockStreamRow.holds Try.pinned (OpenSpec.ofChange blockStreamWrong)

/-- 'pawllaw05.BlockCounter': WHATEVER THE INPUT: true; the input reads as it did. -/
def blockCounterSpec : ChangeSpec := { name := "blockCounter", fn := fun _ => fun
  | [d1, d2, d3] => { results := [.lit (.bool true)], args := [d1, d2, d3] }
  | _ => none }
def blockCounterRow : OpenClaim := { program := "ytmldmlbmfbdjoab", sum := "e6974279f1d2f1eb69beea28ab90aa5e49aae33ed076d4bbf2f0e07fcf010982", func := "pawl/pawllaw05.BlockCounter", spec := "blockCounter", unfollowed := true, recurses := true, apart := false }
def BlockCounterSaid : Prop := blockCounterRow.holds Try.pinned (OpenSpec.ofChange blockCounterSpec)

/-- ITS FALSE NEIGHBOUR: 'it returns false'. Refute it at one input. -/
def blockCounterWrong : ChangeSpec := { name := "blockCounter", fn := fun _ => fun
  | [d1, d2, d3] => { results := [.lit (.bool false)], args := [d1, d2, d3] }
  | _ => none }
def BlockCounterWrongFalsely : Prop := blockCounterRow.holds Try.pinned (OpenSpec.ofChange blockCounterWrong)

/- THE SECOND FORM. 'bulk': how many values and letters a reading holds, each counted each time it is reached (what is shared counts as often as it is met; a slice's spare places count too). A statement '..UptoSaid' is the law's where the arguments, and the package variables that the reading takes, are together of bulk at most 1048576: NARROWER than '..Said'. Prove '..Said' where nothing that the law and all that it calls make is longer than what came in: it says more and counts as full. Else prove '..UptoSaid'. A law counts once. -/
mutual
def uptoBulk {H : Type} : DataW H → Nat
  | .lit (.string bytes) => bytes.length + 1
  | .lit _ => 1
  | .nil => 1
  | .ptr d => uptoBulk d + 1
  | .slice elems spare => uptoBulkAll elems + uptoBulkAll spare + 1
  | .agg parts => uptoBulkAll parts + 1
  | .iface _ d => uptoBulk d + 1
  | .map entries => uptoBulkEntries entries + 1
  | .held _ => 1
def uptoBulkAll {H : Type} : List (DataW H) → Nat
  | [] => 0
  | d :: r => uptoBulk d + uptoBulkAll r
def uptoBulkEntries {H : Type} : List (Lit × DataW H) → Nat
  | [] => 0
  | x :: r => uptoBulkEntry x + uptoBulkEntries r
def uptoBulkEntry {H : Type} : Lit × DataW H → Nat
  | (.string bytes, d) => bytes.length + uptoBulk d + 1
  | (_, d) => uptoBulk d + 1
 end
def uptoSmall : (H : Type) → List (DataW H) → Bool := fun _ ds => decide (uptoBulkAll ds ≤ 1048576)
def OpenSpec.upto (s : _root_.Go.ChangeSpec) : _root_.Go.OpenSpec := { _root_.Go.OpenSpec.ofChange s with cond := some uptoSmall }

/-- 'pawllaw05.BlockStream', WHERE WHAT IT READS IS OF BULK AT MOST 1048576: true; the input reads as it did. -/
def blockStreamUptoRow : OpenClaim := { program := "ytmldmlbmfbdjoab", sum := "e6974279f1d2f1eb69beea28ab90aa5e49aae33ed076d4bbf2f0e07fcf010982", func := "pawl/pawllaw05.BlockStream", spec := "blockStream", unfollowed := true, recurses := true, apart := false, narrowed := true }
def BlockStreamUptoSaid : Prop := blockStreamUptoRow.holds Try.pinned (OpenSpec.upto blockStreamSpec)

/-- 'pawllaw05.BlockCounter', WHERE WHAT IT READS IS OF BULK AT MOST 1048576: true; the input reads as it did. -/
def blockCounterUptoRow : OpenClaim := { program := "ytmldmlbmfbdjoab", sum := "e6974279f1d2f1eb69beea28ab90aa5e49aae33ed076d4bbf2f0e07fcf010982", func := "pawl/pawllaw05.BlockCounter", spec := "blockCounter", unfollowed := true, recurses := true, apart := false, narrowed := true }
def BlockCounterUptoSaid : Prop := blockCounterUptoRow.holds Try.pinned (OpenSpec.upto blockCounterSpec)

end Rows
end Go.Proofs.Ytmldmlbmfbdjoab
