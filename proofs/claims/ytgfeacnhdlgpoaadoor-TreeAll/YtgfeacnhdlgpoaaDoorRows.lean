/-
  NARROWER THAN 'FOR EVERY INPUT', by the rows' own cells (each row's printed sentence says how): TreeHashes: laid · TreeRoots: laid · TreeAll: laid · TreeIncludes: laid · TreeGrows: laid · TreeComplete: laid · TreeSound: laid · TreeGrowsOnly: laid.
  DERIVED. THE GIVEN ROWS OF THIS SEAT. 8 by the template 'for every input the law returns true; each argument reads behind the call as it read before'; 0 by the template 'total and deterministic' (their statements: YtgfeacnhdlgpoaaDoorTotals.lean).
  GIVEN WITH THE SEED: the statements are not yours to turn. If you find one false, say at which input.
  Laid BY PROGRAM, IN A SANDBOX (cutbox-rows.mjs): the forced cells as the released guide's own fill.sh prints them over the translation 6736a2837861d45a… (all of the seat's roots in one cut). By AI agents, Wed Nov 11 2026. No macro, syntax, notation, axiom, sorry.
-/
import Derived.Test.YtgfeacnhdlgpoaaDoorChecked
import GoSem.Claim
import GoSem.ClaimJoined
import GoSem.ClaimMapViews
import Derived.JoinedTies
import Derived.KernelRfl
namespace Go.Proofs.YtgfeacnhdlgpoaaDoor
/- THE CELL 'sum', in the pinned program and in every row, IS THE sha256 OF THE DUMP (.gsa) THAT YtgfeacnhdlgpoaaDoorProg.lean LOADS. Nothing in Lean hashes anything: it is a label: what it is worth is what the hold of that sum in a sandbox is worth. -/
noncomputable def Tryd.pinned : Pinned := { name := "ytgfeacnhdlgpoaadoor", sum := "6736a2837861d45a166d1d805b442456d163f006d9ff9a74ebc1f9cf8d050d2d", checked := Tryd.checked }
namespace Rows
def none {H : Type} : Left H := { results := [], args := [] }

/- WHAT THE LISTED PACKAGE-LEVEL VARIABLES READ AS WHEN THE CALL BEGINS. Each datum BY PROGRAM (the guide's laid-datum.mjs) off the statement by which the dump's own 'gosem.cut.vars' lays the variable. In a bare row this is a premise. The card (YtgfeacnhdlgpoaaDoorCards.lean) ties it to the program's text. -/
def laid_pawl_hash_start {H : Type} : DataW H := .agg [.lit (.int .u32 1779033703), .lit (.int .u32 3144134277), .lit (.int .u32 1013904242), .lit (.int .u32 2773480762), .lit (.int .u32 1359893119), .lit (.int .u32 2600822924), .lit (.int .u32 528734635), .lit (.int .u32 1541459225)]
def laid_pawl_hash_constants {H : Type} : DataW H := .agg [.lit (.int .u32 1116352408), .lit (.int .u32 1899447441), .lit (.int .u32 3049323471), .lit (.int .u32 3921009573), .lit (.int .u32 961987163), .lit (.int .u32 1508970993), .lit (.int .u32 2453635748), .lit (.int .u32 2870763221), .lit (.int .u32 3624381080), .lit (.int .u32 310598401), .lit (.int .u32 607225278), .lit (.int .u32 1426881987), .lit (.int .u32 1925078388), .lit (.int .u32 2162078206), .lit (.int .u32 2614888103), .lit (.int .u32 3248222580), .lit (.int .u32 3835390401), .lit (.int .u32 4022224774), .lit (.int .u32 264347078), .lit (.int .u32 604807628), .lit (.int .u32 770255983), .lit (.int .u32 1249150122), .lit (.int .u32 1555081692), .lit (.int .u32 1996064986), .lit (.int .u32 2554220882), .lit (.int .u32 2821834349), .lit (.int .u32 2952996808), .lit (.int .u32 3210313671), .lit (.int .u32 3336571891), .lit (.int .u32 3584528711), .lit (.int .u32 113926993), .lit (.int .u32 338241895), .lit (.int .u32 666307205), .lit (.int .u32 773529912), .lit (.int .u32 1294757372), .lit (.int .u32 1396182291), .lit (.int .u32 1695183700), .lit (.int .u32 1986661051), .lit (.int .u32 2177026350), .lit (.int .u32 2456956037), .lit (.int .u32 2730485921), .lit (.int .u32 2820302411), .lit (.int .u32 3259730800), .lit (.int .u32 3345764771), .lit (.int .u32 3516065817), .lit (.int .u32 3600352804), .lit (.int .u32 4094571909), .lit (.int .u32 275423344), .lit (.int .u32 430227734), .lit (.int .u32 506948616), .lit (.int .u32 659060556), .lit (.int .u32 883997877), .lit (.int .u32 958139571), .lit (.int .u32 1322822218), .lit (.int .u32 1537002063), .lit (.int .u32 1747873779), .lit (.int .u32 1955562222), .lit (.int .u32 2024104815), .lit (.int .u32 2227730452), .lit (.int .u32 2361852424), .lit (.int .u32 2428436474), .lit (.int .u32 2756734187), .lit (.int .u32 3204031479), .lit (.int .u32 3329325298)]

/-- 'pawllaw21.TreeHashes': WHATEVER THE INPUT: true; the input reads as it did. -/
def treeHashesSpec : ChangeSpec := { name := "treeHashes", fn := fun _ => fun
  | [d1, d2, d3] => { results := [.lit (.bool true)], args := [d1, d2, d3] }
  | _ => none }
def treeHashesRow : OpenClaim := { program := "ytgfeacnhdlgpoaadoor", sum := "6736a2837861d45a166d1d805b442456d163f006d9ff9a74ebc1f9cf8d050d2d", func := "pawl/pawllaw21.TreeHashes", spec := "treeHashes", named := ["pawl/hash.start", "pawl/hash.constants"], apart := false, laid := [("pawl/hash.start", laid_pawl_hash_start), ("pawl/hash.constants", laid_pawl_hash_constants)] }
def TreeHashesSaid : Prop := treeHashesRow.holds Tryd.pinned (OpenSpec.ofChange treeHashesSpec)

/-- ITS FALSE NEIGHBOUR: 'it returns false'. Refute it at one input. -/
def treeHashesWrong : ChangeSpec := { name := "treeHashes", fn := fun _ => fun
  | [d1, d2, d3] => { results := [.lit (.bool false)], args := [d1, d2, d3] }
  | _ => none }
def TreeHashesWrongFalsely : Prop := treeHashesRow.holds Tryd.pinned (OpenSpec.ofChange treeHashesWrong)

/-- 'pawllaw21.TreeRoots': WHATEVER THE INPUT: true; the input reads as it did. -/
def treeRootsSpec : ChangeSpec := { name := "treeRoots", fn := fun _ => fun
  | [d] => { results := [.lit (.bool true)], args := [d] }
  | _ => none }
def treeRootsRow : OpenClaim := { program := "ytgfeacnhdlgpoaadoor", sum := "6736a2837861d45a166d1d805b442456d163f006d9ff9a74ebc1f9cf8d050d2d", func := "pawl/pawllaw21.TreeRoots", spec := "treeRoots", recurses := true, named := ["pawl/hash.start", "pawl/hash.constants"], apart := false, laid := [("pawl/hash.start", laid_pawl_hash_start), ("pawl/hash.constants", laid_pawl_hash_constants)] }
def TreeRootsSaid : Prop := treeRootsRow.holds Tryd.pinned (OpenSpec.ofChange treeRootsSpec)

/-- ITS FALSE NEIGHBOUR: 'it returns false'. Refute it at one input. -/
def treeRootsWrong : ChangeSpec := { name := "treeRoots", fn := fun _ => fun
  | [d] => { results := [.lit (.bool false)], args := [d] }
  | _ => none }
def TreeRootsWrongFalsely : Prop := treeRootsRow.holds Tryd.pinned (OpenSpec.ofChange treeRootsWrong)

/-- 'pawllaw21.TreeAll': WHATEVER THE INPUT: true; the input reads as it did. -/
def treeAllSpec : ChangeSpec := { name := "treeAll", fn := fun _ => fun
  | [d1, d2] => { results := [.lit (.bool true)], args := [d1, d2] }
  | _ => none }
def treeAllRow : OpenClaim := { program := "ytgfeacnhdlgpoaadoor", sum := "6736a2837861d45a166d1d805b442456d163f006d9ff9a74ebc1f9cf8d050d2d", func := "pawl/pawllaw21.TreeAll", spec := "treeAll", recurses := true, named := ["pawl/hash.start", "pawl/hash.constants"], apart := false, laid := [("pawl/hash.start", laid_pawl_hash_start), ("pawl/hash.constants", laid_pawl_hash_constants)] }
def TreeAllSaid : Prop := treeAllRow.holds Tryd.pinned (OpenSpec.ofChange treeAllSpec)

/-- ITS FALSE NEIGHBOUR: 'it returns false'. Refute it at one input. -/
def treeAllWrong : ChangeSpec := { name := "treeAll", fn := fun _ => fun
  | [d1, d2] => { results := [.lit (.bool false)], args := [d1, d2] }
  | _ => none }
def TreeAllWrongFalsely : Prop := treeAllRow.holds Tryd.pinned (OpenSpec.ofChange treeAllWrong)

/-- 'pawllaw21.TreeIncludes': WHATEVER THE INPUT: true; the input reads as it did. -/
def treeIncludesSpec : ChangeSpec := { name := "treeIncludes", fn := fun _ => fun
  | [d] => { results := [.lit (.bool true)], args := [d] }
  | _ => none }
def treeIncludesRow : OpenClaim := { program := "ytgfeacnhdlgpoaadoor", sum := "6736a2837861d45a166d1d805b442456d163f006d9ff9a74ebc1f9cf8d050d2d", func := "pawl/pawllaw21.TreeIncludes", spec := "treeIncludes", recurses := true, named := ["pawl/hash.start", "pawl/hash.constants"], apart := false, laid := [("pawl/hash.start", laid_pawl_hash_start), ("pawl/hash.constants", laid_pawl_hash_constants)] }
def TreeIncludesSaid : Prop := treeIncludesRow.holds Tryd.pinned (OpenSpec.ofChange treeIncludesSpec)

/-- ITS FALSE NEIGHBOUR: 'it returns false'. Refute it at one input. -/
def treeIncludesWrong : ChangeSpec := { name := "treeIncludes", fn := fun _ => fun
  | [d] => { results := [.lit (.bool false)], args := [d] }
  | _ => none }
def TreeIncludesWrongFalsely : Prop := treeIncludesRow.holds Tryd.pinned (OpenSpec.ofChange treeIncludesWrong)

/-- 'pawllaw21.TreeGrows': WHATEVER THE INPUT: true; the input reads as it did. -/
def treeGrowsSpec : ChangeSpec := { name := "treeGrows", fn := fun _ => fun
  | [d] => { results := [.lit (.bool true)], args := [d] }
  | _ => none }
def treeGrowsRow : OpenClaim := { program := "ytgfeacnhdlgpoaadoor", sum := "6736a2837861d45a166d1d805b442456d163f006d9ff9a74ebc1f9cf8d050d2d", func := "pawl/pawllaw21.TreeGrows", spec := "treeGrows", recurses := true, named := ["pawl/hash.start", "pawl/hash.constants"], apart := false, laid := [("pawl/hash.start", laid_pawl_hash_start), ("pawl/hash.constants", laid_pawl_hash_constants)] }
def TreeGrowsSaid : Prop := treeGrowsRow.holds Tryd.pinned (OpenSpec.ofChange treeGrowsSpec)

/-- ITS FALSE NEIGHBOUR: 'it returns false'. Refute it at one input. -/
def treeGrowsWrong : ChangeSpec := { name := "treeGrows", fn := fun _ => fun
  | [d] => { results := [.lit (.bool false)], args := [d] }
  | _ => none }
def TreeGrowsWrongFalsely : Prop := treeGrowsRow.holds Tryd.pinned (OpenSpec.ofChange treeGrowsWrong)

/-- 'pawllaw21.TreeComplete': WHATEVER THE INPUT: true; the input reads as it did. -/
def treeCompleteSpec : ChangeSpec := { name := "treeComplete", fn := fun _ => fun
  | [d] => { results := [.lit (.bool true)], args := [d] }
  | _ => none }
def treeCompleteRow : OpenClaim := { program := "ytgfeacnhdlgpoaadoor", sum := "6736a2837861d45a166d1d805b442456d163f006d9ff9a74ebc1f9cf8d050d2d", func := "pawl/pawllaw21.TreeComplete", spec := "treeComplete", recurses := true, named := ["pawl/hash.start", "pawl/hash.constants"], apart := false, laid := [("pawl/hash.start", laid_pawl_hash_start), ("pawl/hash.constants", laid_pawl_hash_constants)] }
def TreeCompleteSaid : Prop := treeCompleteRow.holds Tryd.pinned (OpenSpec.ofChange treeCompleteSpec)

/-- ITS FALSE NEIGHBOUR: 'it returns false'. Refute it at one input. -/
def treeCompleteWrong : ChangeSpec := { name := "treeComplete", fn := fun _ => fun
  | [d] => { results := [.lit (.bool false)], args := [d] }
  | _ => none }
def TreeCompleteWrongFalsely : Prop := treeCompleteRow.holds Tryd.pinned (OpenSpec.ofChange treeCompleteWrong)

/-- 'pawllaw21.TreeSound': WHATEVER THE INPUT: true; the input reads as it did. -/
def treeSoundSpec : ChangeSpec := { name := "treeSound", fn := fun _ => fun
  | [d1, d2, d3] => { results := [.lit (.bool true)], args := [d1, d2, d3] }
  | _ => none }
def treeSoundRow : OpenClaim := { program := "ytgfeacnhdlgpoaadoor", sum := "6736a2837861d45a166d1d805b442456d163f006d9ff9a74ebc1f9cf8d050d2d", func := "pawl/pawllaw21.TreeSound", spec := "treeSound", recurses := true, named := ["pawl/hash.start", "pawl/hash.constants"], apart := false, laid := [("pawl/hash.start", laid_pawl_hash_start), ("pawl/hash.constants", laid_pawl_hash_constants)] }
def TreeSoundSaid : Prop := treeSoundRow.holds Tryd.pinned (OpenSpec.ofChange treeSoundSpec)

/-- ITS FALSE NEIGHBOUR: 'it returns false'. Refute it at one input. -/
def treeSoundWrong : ChangeSpec := { name := "treeSound", fn := fun _ => fun
  | [d1, d2, d3] => { results := [.lit (.bool false)], args := [d1, d2, d3] }
  | _ => none }
def TreeSoundWrongFalsely : Prop := treeSoundRow.holds Tryd.pinned (OpenSpec.ofChange treeSoundWrong)

/-- 'pawllaw21.TreeGrowsOnly': WHATEVER THE INPUT: true; the input reads as it did. -/
def treeGrowsOnlySpec : ChangeSpec := { name := "treeGrowsOnly", fn := fun _ => fun
  | [d1, d2] => { results := [.lit (.bool true)], args := [d1, d2] }
  | _ => none }
def treeGrowsOnlyRow : OpenClaim := { program := "ytgfeacnhdlgpoaadoor", sum := "6736a2837861d45a166d1d805b442456d163f006d9ff9a74ebc1f9cf8d050d2d", func := "pawl/pawllaw21.TreeGrowsOnly", spec := "treeGrowsOnly", recurses := true, named := ["pawl/hash.start", "pawl/hash.constants"], apart := false, laid := [("pawl/hash.start", laid_pawl_hash_start), ("pawl/hash.constants", laid_pawl_hash_constants)] }
def TreeGrowsOnlySaid : Prop := treeGrowsOnlyRow.holds Tryd.pinned (OpenSpec.ofChange treeGrowsOnlySpec)

/-- ITS FALSE NEIGHBOUR: 'it returns false'. Refute it at one input. -/
def treeGrowsOnlyWrong : ChangeSpec := { name := "treeGrowsOnly", fn := fun _ => fun
  | [d1, d2] => { results := [.lit (.bool false)], args := [d1, d2] }
  | _ => none }
def TreeGrowsOnlyWrongFalsely : Prop := treeGrowsOnlyRow.holds Tryd.pinned (OpenSpec.ofChange treeGrowsOnlyWrong)

/- THE SECOND FORM. 'bulk': how many values and letters a reading holds, each counted each time it is reached (what is shared counts as often as it is met; a slice's spare places count too). A statement '..UptoSaid' is the law's where the arguments, and the package variables that the reading takes, are together of bulk at most 1048576: NARROWER than '..Said'. Prove '..Said' where nothing that the law and all that it calls make is longer than what came in: it says more and counts as full. Else prove '..UptoSaid'. A law counts once. -/
mutual
def uptoBulk {H : Type} : DataW H → Nat
  | .lit (.string bytes) => bytes.length + 1
  | .lit _ => 1
  | .nil => 1
  | .ptr d => uptoBulk d + 1
  | .slice elems spare => uptoBulkAll elems + uptoBulkAll spare + 1
  | .agg parts => uptoBulkAll parts + 1
  | .iface _ d => uptoBulk d + 1
  | .map entries => uptoBulkEntries entries + 1
  | .held _ => 1
def uptoBulkAll {H : Type} : List (DataW H) → Nat
  | [] => 0
  | d :: r => uptoBulk d + uptoBulkAll r
def uptoBulkEntries {H : Type} : List (Lit × DataW H) → Nat
  | [] => 0
  | x :: r => uptoBulkEntry x + uptoBulkEntries r
def uptoBulkEntry {H : Type} : Lit × DataW H → Nat
  | (.string bytes, d) => bytes.length + uptoBulk d + 1
  | (_, d) => uptoBulk d + 1
 end
def uptoSmall : (H : Type) → List (DataW H) → Bool := fun _ ds => decide (uptoBulkAll ds ≤ 1048576)
def OpenSpec.upto (s : _root_.Go.ChangeSpec) : _root_.Go.OpenSpec := { _root_.Go.OpenSpec.ofChange s with cond := some uptoSmall }

/-- 'pawllaw21.TreeHashes', WHERE WHAT IT READS IS OF BULK AT MOST 1048576: true; the input reads as it did. -/
def treeHashesUptoRow : OpenClaim := { program := "ytgfeacnhdlgpoaadoor", sum := "6736a2837861d45a166d1d805b442456d163f006d9ff9a74ebc1f9cf8d050d2d", func := "pawl/pawllaw21.TreeHashes", spec := "treeHashes", named := ["pawl/hash.start", "pawl/hash.constants"], apart := false, laid := [("pawl/hash.start", laid_pawl_hash_start), ("pawl/hash.constants", laid_pawl_hash_constants)], narrowed := true }
def TreeHashesUptoSaid : Prop := treeHashesUptoRow.holds Tryd.pinned (OpenSpec.upto treeHashesSpec)

/-- 'pawllaw21.TreeRoots', WHERE WHAT IT READS IS OF BULK AT MOST 1048576: true; the input reads as it did. -/
def treeRootsUptoRow : OpenClaim := { program := "ytgfeacnhdlgpoaadoor", sum := "6736a2837861d45a166d1d805b442456d163f006d9ff9a74ebc1f9cf8d050d2d", func := "pawl/pawllaw21.TreeRoots", spec := "treeRoots", recurses := true, named := ["pawl/hash.start", "pawl/hash.constants"], apart := false, laid := [("pawl/hash.start", laid_pawl_hash_start), ("pawl/hash.constants", laid_pawl_hash_constants)], narrowed := true }
def TreeRootsUptoSaid : Prop := treeRootsUptoRow.holds Tryd.pinned (OpenSpec.upto treeRootsSpec)

/-- 'pawllaw21.TreeAll', WHERE WHAT IT READS IS OF BULK AT MOST 1048576: true; the input reads as it did. -/
def treeAllUptoRow : OpenClaim := { program := "ytgfeacnhdlgpoaadoor", sum := "6736a2837861d45a166d1d805b442456d163f006d9ff9a74ebc1f9cf8d050d2d", func := "pawl/pawllaw21.TreeAll", spec := "treeAll", recurses := true, named := ["pawl/hash.start", "pawl/hash.constants"], apart := false, laid := [("pawl/hash.start", laid_pawl_hash_start), ("pawl/hash.constants", laid_pawl_hash_constants)], narrowed := true }
def TreeAllUptoSaid : Prop := treeAllUptoRow.holds Tryd.pinned (OpenSpec.upto treeAllSpec)

/-- 'pawllaw21.TreeIncludes', WHERE WHAT IT READS IS OF BULK AT MOST 1048576: true; the input reads as it did. -/
def treeIncludesUptoRow : OpenClaim := { program := "ytgfeacnhdlgpoaadoor", sum := "6736a2837861d45a166d1d805b442456d163f006d9ff9a74ebc1f9cf8d050d2d", func := "pawl/pawllaw21.TreeIncludes", spec := "treeIncludes", recurses := true, named := ["pawl/hash.start", "pawl/hash.constants"], apart := false, laid := [("pawl/hash.start", laid_pawl_hash_start), ("pawl/hash.constants", laid_pawl_hash_constants)], narrowed := true }
def TreeIncludesUptoSaid : Prop := treeIncludesUptoRow.holds Tryd.pinned (OpenSpec.upto treeIncludesSpec)

/-- 'pawllaw21.TreeGrows', WHERE WHAT IT READS IS OF BULK AT MOST 1048576: true; the input reads as it did. -/
def treeGrowsUptoRow : OpenClaim := { program := "ytgfeacnhdlgpoaadoor", sum := "6736a2837861d45a166d1d805b442456d163f006d9ff9a74ebc1f9cf8d050d2d", func := "pawl/pawllaw21.TreeGrows", spec := "treeGrows", recurses := true, named := ["pawl/hash.start", "pawl/hash.constants"], apart := false, laid := [("pawl/hash.start", laid_pawl_hash_start), ("pawl/hash.constants", laid_pawl_hash_constants)], narrowed := true }
def TreeGrowsUptoSaid : Prop := treeGrowsUptoRow.holds Tryd.pinned (OpenSpec.upto treeGrowsSpec)

/-- 'pawllaw21.TreeComplete', WHERE WHAT IT READS IS OF BULK AT MOST 1048576: true; the input reads as it did. -/
def treeCompleteUptoRow : OpenClaim := { program := "ytgfeacnhdlgpoaadoor", sum := "6736a2837861d45a166d1d805b442456d163f006d9ff9a74ebc1f9cf8d050d2d", func := "pawl/pawllaw21.TreeComplete", spec := "treeComplete", recurses := true, named := ["pawl/hash.start", "pawl/hash.constants"], apart := false, laid := [("pawl/hash.start", laid_pawl_hash_start), ("pawl/hash.constants", laid_pawl_hash_constants)], narrowed := true }
def TreeCompleteUptoSaid : Prop := treeCompleteUptoRow.holds Tryd.pinned (OpenSpec.upto treeCompleteSpec)

/-- 'pawllaw21.TreeSound', WHERE WHAT IT READS IS OF BULK AT MOST 1048576: true; the input reads as it did. -/
def treeSoundUptoRow : OpenClaim := { program := "ytgfeacnhdlgpoaadoor", sum := "6736a2837861d45a166d1d805b442456d163f006d9ff9a74ebc1f9cf8d050d2d", func := "pawl/pawllaw21.TreeSound", spec := "treeSound", recurses := true, named := ["pawl/hash.start", "pawl/hash.constants"], apart := false, laid := [("pawl/hash.start", laid_pawl_hash_start), ("pawl/hash.constants", laid_pawl_hash_constants)], narrowed := true }
def TreeSoundUptoSaid : Prop := treeSoundUptoRow.holds Tryd.pinned (OpenSpec.upto treeSoundSpec)

/-- 'pawllaw21.TreeGrowsOnly', WHERE WHAT IT READS IS OF BULK AT MOST 1048576: true; the input reads as it did. -/
def treeGrowsOnlyUptoRow : OpenClaim := { program := "ytgfeacnhdlgpoaadoor", sum := "6736a2837861d45a166d1d805b442456d163f006d9ff9a74ebc1f9cf8d050d2d", func := "pawl/pawllaw21.TreeGrowsOnly", spec := "treeGrowsOnly", recurses := true, named := ["pawl/hash.start", "pawl/hash.constants"], apart := false, laid := [("pawl/hash.start", laid_pawl_hash_start), ("pawl/hash.constants", laid_pawl_hash_constants)], narrowed := true }
def TreeGrowsOnlyUptoSaid : Prop := treeGrowsOnlyUptoRow.holds Tryd.pinned (OpenSpec.upto treeGrowsOnlySpec)

end Rows
end Go.Proofs.YtgfeacnhdlgpoaaDoor
