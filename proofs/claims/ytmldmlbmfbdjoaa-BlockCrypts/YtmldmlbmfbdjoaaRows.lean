/-
  No cell of these rows narrows 'for every input' (looked for: loops, veiled, ifaces, maps, wideKeys, modest, calm, conditions, laid).
  DERIVED. THE GIVEN ROWS OF THIS SEAT. 6 by the template 'for every input the law returns true; each argument reads behind the call as it read before'; 0 by the template 'total and deterministic' (their statements: YtmldmlbmfbdjoaaTotals.lean).
  GIVEN WITH THE SEED: the statements are not yours to turn. If you find one false, say at which input.
  Laid BY PROGRAM, IN A SANDBOX (cutbox-rows.mjs): the forced cells as the released guide's own fill.sh prints them over the translation e49d99e05b9a560a… (all of the seat's roots in one cut). By AI agents, Wed Nov 11 2026. No macro, syntax, notation, axiom, sorry.
-/
import Derived.Test.YtmldmlbmfbdjoaaChecked
import GoSem.Claim
import GoSem.ClaimJoined
import GoSem.ClaimMapViews
import Derived.JoinedTies
import Derived.KernelRfl
namespace Go.Proofs.Ytmldmlbmfbdjoaa
/- THE CELL 'sum', in the pinned program and in every row, IS THE sha256 OF THE DUMP (.gsa) THAT YtmldmlbmfbdjoaaProg.lean LOADS. Nothing in Lean hashes anything: it is a label: what it is worth is what the hold of that sum in a sandbox is worth. -/
noncomputable def Try.pinned : Pinned := { name := "ytmldmlbmfbdjoaa", sum := "e49d99e05b9a560a608620062cfa0306da5024c355789d2217acc776946997cb", checked := Try.checked }
namespace Rows
def none {H : Type} : Left H := { results := [], args := [] }

/-- 'pawllaw05.BlockTimes': WHATEVER THE INPUT: true; the input reads as it did. -/
def blockTimesSpec : ChangeSpec := { name := "blockTimes", fn := fun _ => fun
  | [d1, d2] => { results := [.lit (.bool true)], args := [d1, d2] }
  | _ => none }
def blockTimesRow : OpenClaim := { program := "ytmldmlbmfbdjoaa", sum := "e49d99e05b9a560a608620062cfa0306da5024c355789d2217acc776946997cb", func := "pawl/pawllaw05.BlockTimes", spec := "blockTimes", apart := false }
def BlockTimesSaid : Prop := blockTimesRow.holds Try.pinned (OpenSpec.ofChange blockTimesSpec)

/-- ITS FALSE NEIGHBOUR: 'it returns false'. Refute it at one input. -/
def blockTimesWrong : ChangeSpec := { name := "blockTimes", fn := fun _ => fun
  | [d1, d2] => { results := [.lit (.bool false)], args := [d1, d2] }
  | _ => none }
def BlockTimesWrongFalsely : Prop := blockTimesRow.holds Try.pinned (OpenSpec.ofChange blockTimesWrong)

/-- 'pawllaw05.BlockKeys': WHATEVER THE INPUT: true; the input reads as it did. -/
def blockKeysSpec : ChangeSpec := { name := "blockKeys", fn := fun _ => fun
  | [d] => { results := [.lit (.bool true)], args := [d] }
  | _ => none }
def blockKeysRow : OpenClaim := { program := "ytmldmlbmfbdjoaa", sum := "e49d99e05b9a560a608620062cfa0306da5024c355789d2217acc776946997cb", func := "pawl/pawllaw05.BlockKeys", spec := "blockKeys", apart := false }
def BlockKeysSaid : Prop := blockKeysRow.holds Try.pinned (OpenSpec.ofChange blockKeysSpec)

/-- ITS FALSE NEIGHBOUR: 'it returns false'. Refute it at one input. -/
def blockKeysWrong : ChangeSpec := { name := "blockKeys", fn := fun _ => fun
  | [d] => { results := [.lit (.bool false)], args := [d] }
  | _ => none }
def BlockKeysWrongFalsely : Prop := blockKeysRow.holds Try.pinned (OpenSpec.ofChange blockKeysWrong)

/-- 'pawllaw05.BlockCiphers': WHATEVER THE INPUT: true; the input reads as it did. -/
def blockCiphersSpec : ChangeSpec := { name := "blockCiphers", fn := fun _ => fun
  | [d1, d2, d3] => { results := [.lit (.bool true)], args := [d1, d2, d3] }
  | _ => none }
def blockCiphersRow : OpenClaim := { program := "ytmldmlbmfbdjoaa", sum := "e49d99e05b9a560a608620062cfa0306da5024c355789d2217acc776946997cb", func := "pawl/pawllaw05.BlockCiphers", spec := "blockCiphers", unfollowed := true, recurses := true, apart := false }
def BlockCiphersSaid : Prop := blockCiphersRow.holds Try.pinned (OpenSpec.ofChange blockCiphersSpec)

/-- ITS FALSE NEIGHBOUR: 'it returns false'. Refute it at one input. -/
def blockCiphersWrong : ChangeSpec := { name := "blockCiphers", fn := fun _ => fun
  | [d1, d2, d3] => { results := [.lit (.bool false)], args := [d1, d2, d3] }
  | _ => none }
def BlockCiphersWrongFalsely : Prop := blockCiphersRow.holds Try.pinned (OpenSpec.ofChange blockCiphersWrong)

/-- 'pawllaw05.BlockCrypts': WHATEVER THE INPUT: true; the input reads as it did. -/
def blockCryptsSpec : ChangeSpec := { name := "blockCrypts", fn := fun _ => fun
  | [d] => { results := [.lit (.bool true)], args := [d] }
  | _ => none }
def blockCryptsRow : OpenClaim := { program := "ytmldmlbmfbdjoaa", sum := "e49d99e05b9a560a608620062cfa0306da5024c355789d2217acc776946997cb", func := "pawl/pawllaw05.BlockCrypts", spec := "blockCrypts", unfollowed := true, recurses := true, apart := false }
def BlockCryptsSaid : Prop := blockCryptsRow.holds Try.pinned (OpenSpec.ofChange blockCryptsSpec)

/-- ITS FALSE NEIGHBOUR: 'it returns false'. Refute it at one input. -/
def blockCryptsWrong : ChangeSpec := { name := "blockCrypts", fn := fun _ => fun
  | [d] => { results := [.lit (.bool false)], args := [d] }
  | _ => none }
def BlockCryptsWrongFalsely : Prop := blockCryptsRow.holds Try.pinned (OpenSpec.ofChange blockCryptsWrong)

/-- 'pawllaw05.BlockBack': WHATEVER THE INPUT: true; the input reads as it did. -/
def blockBackSpec : ChangeSpec := { name := "blockBack", fn := fun _ => fun
  | [d1, d2, d3] => { results := [.lit (.bool true)], args := [d1, d2, d3] }
  | _ => none }
def blockBackRow : OpenClaim := { program := "ytmldmlbmfbdjoaa", sum := "e49d99e05b9a560a608620062cfa0306da5024c355789d2217acc776946997cb", func := "pawl/pawllaw05.BlockBack", spec := "blockBack", unfollowed := true, recurses := true, apart := false }
def BlockBackSaid : Prop := blockBackRow.holds Try.pinned (OpenSpec.ofChange blockBackSpec)

/-- ITS FALSE NEIGHBOUR: 'it returns false'. Refute it at one input. -/
def blockBackWrong : ChangeSpec := { name := "blockBack", fn := fun _ => fun
  | [d1, d2, d3] => { results := [.lit (.bool false)], args := [d1, d2, d3] }
  | _ => none }
def BlockBackWrongFalsely : Prop := blockBackRow.holds Try.pinned (OpenSpec.ofChange blockBackWrong)

/-- 'pawllaw05.BlockField': WHATEVER THE INPUT: true; the input reads as it did. -/
def blockFieldSpec : ChangeSpec := { name := "blockField", fn := fun _ => fun
  | [d1, d2, d3] => { results := [.lit (.bool true)], args := [d1, d2, d3] }
  | _ => none }
def blockFieldRow : OpenClaim := { program := "ytmldmlbmfbdjoaa", sum := "e49d99e05b9a560a608620062cfa0306da5024c355789d2217acc776946997cb", func := "pawl/pawllaw05.BlockField", spec := "blockField", apart := false }
def BlockFieldSaid : Prop := blockFieldRow.holds Try.pinned (OpenSpec.ofChange blockFieldSpec)

/-- ITS FALSE NEIGHBOUR: 'it returns false'. Refute it at one input. -/
def blockFieldWrong : ChangeSpec := { name := "blockField", fn := fun _ => fun
  | [d1, d2, d3] => { results := [.lit (.bool false)], args := [d1, d2, d3] }
  | _ => none }
def BlockFieldWrongFalsely : Prop := blockFieldRow.holds Try.pinned (OpenSpec.ofChange blockFieldWrong)

/- THE SECOND FORM. 'bulk': how many values and letters a reading holds, each counted each time it is reached (what is shared counts as often as it is met; a slice's spare places count too). A statement '..UptoSaid' is the law's where the arguments, and the package variables that the reading takes, are together of bulk at most 1048576: NARROWER than '..Said'. Prove '..Said' where nothing that the law and all that it calls make is longer than what came in: it says more and counts as full. Else prove '..UptoSaid'. A law counts once. -/
mutual
def uptoBulk {H : Type} : DataW H → Nat
  | .lit (.string bytes) => bytes.length + 1
  | .lit _ => 1
  | .nil => 1
  | .ptr d => uptoBulk d + 1
  | .slice elems spare => uptoBulkAll elems + uptoBulkAll spare + 1
  | .agg parts => uptoBulkAll parts + 1
  | .iface _ d => uptoBulk d + 1
  | .map entries => uptoBulkEntries entries + 1
  | .held _ => 1
def uptoBulkAll {H : Type} : List (DataW H) → Nat
  | [] => 0
  | d :: r => uptoBulk d + uptoBulkAll r
def uptoBulkEntries {H : Type} : List (Lit × DataW H) → Nat
  | [] => 0
  | x :: r => uptoBulkEntry x + uptoBulkEntries r
def uptoBulkEntry {H : Type} : Lit × DataW H → Nat
  | (.string bytes, d) => bytes.length + uptoBulk d + 1
  | (_, d) => uptoBulk d + 1
 end
def uptoSmall : (H : Type) → List (DataW H) → Bool := fun _ ds => decide (uptoBulkAll ds ≤ 1048576)
def OpenSpec.upto (s : _root_.Go.ChangeSpec) : _root_.Go.OpenSpec := { _root_.Go.OpenSpec.ofChange s with cond := some uptoSmall }

/-- 'pawllaw05.BlockTimes', WHERE WHAT IT READS IS OF BULK AT MOST 1048576: true; the input reads as it did. -/
def blockTimesUptoRow : OpenClaim := { program := "ytmldmlbmfbdjoaa", sum := "e49d99e05b9a560a608620062cfa0306da5024c355789d2217acc776946997cb", func := "pawl/pawllaw05.BlockTimes", spec := "blockTimes", apart := false, narrowed := true }
def BlockTimesUptoSaid : Prop := blockTimesUptoRow.holds Try.pinned (OpenSpec.upto blockTimesSpec)

/-- 'pawllaw05.BlockKeys', WHERE WHAT IT READS IS OF BULK AT MOST 1048576: true; the input reads as it did. -/
def blockKeysUptoRow : OpenClaim := { program := "ytmldmlbmfbdjoaa", sum := "e49d99e05b9a560a608620062cfa0306da5024c355789d2217acc776946997cb", func := "pawl/pawllaw05.BlockKeys", spec := "blockKeys", apart := false, narrowed := true }
def BlockKeysUptoSaid : Prop := blockKeysUptoRow.holds Try.pinned (OpenSpec.upto blockKeysSpec)

/-- 'pawllaw05.BlockCiphers', WHERE WHAT IT READS IS OF BULK AT MOST 1048576: true; the input reads as it did. -/
def blockCiphersUptoRow : OpenClaim := { program := "ytmldmlbmfbdjoaa", sum := "e49d99e05b9a560a608620062cfa0306da5024c355789d2217acc776946997cb", func := "pawl/pawllaw05.BlockCiphers", spec := "blockCiphers", unfollowed := true, recurses := true, apart := false, narrowed := true }
def BlockCiphersUptoSaid : Prop := blockCiphersUptoRow.holds Try.pinned (OpenSpec.upto blockCiphersSpec)

/-- 'pawllaw05.BlockCrypts', WHERE WHAT IT READS IS OF BULK AT MOST 1048576: true; the input reads as it did. -/
def blockCryptsUptoRow : OpenClaim := { program := "ytmldmlbmfbdjoaa", sum := "e49d99e05b9a560a608620062cfa0306da5024c355789d2217acc776946997cb", func := "pawl/pawllaw05.BlockCrypts", spec := "blockCrypts", unfollowed := true, recurses := true, apart := false, narrowed := true }
def BlockCryptsUptoSaid : Prop := blockCryptsUptoRow.holds Try.pinned (OpenSpec.upto blockCryptsSpec)

/-- 'pawllaw05.BlockBack', WHERE WHAT IT READS IS OF BULK AT MOST 1048576: true; the input reads as it did. -/
def blockBackUptoRow : OpenClaim := { program := "ytmldmlbmfbdjoaa", sum := "e49d99e05b9a560a608620062cfa0306da5024c355789d2217acc776946997cb", func := "pawl/pawllaw05.BlockBack", spec := "blockBack", unfollowed := true, recurses := true, apart := false, narrowed := true }
def BlockBackUptoSaid : Prop := blockBackUptoRow.holds Try.pinned (OpenSpec.upto blockBackSpec)

/-- 'pawllaw05.BlockField', WHERE WHAT IT READS IS OF BULK AT MOST 1048576: true; the input reads as it did. -/
def blockFieldUptoRow : OpenClaim := { program := "ytmldmlbmfbdjoaa", sum := "e49d99e05b9a560a608620062cfa0306da5024c355789d2217acc776946997cb", func := "pawl/pawllaw05.BlockField", spec := "blockField", apart := false, narrowed := true }
def BlockFieldUptoSaid : Prop := blockFieldUptoRow.holds Try.pinned (OpenSpec.upto blockFieldSpec)

end Rows
end Go.Proofs.Ytmldmlbmfbdjoaa
