import Derived.Test.YtleeadbceljfbaaGreatDoorProg
import Derived.WalkKit
import Derived.WalkSpells
import Derived.WalkLawsBesides
import Derived.Lib.QuietBelow
import Derived.Laws.BitsAllLaws
import Derived.BigQuiet
import Derived.WalkMore
import Derived.Test.YtleeadbceljfbaaGreatDoorKa
import Derived.Test.YtleeadbceljfbaaGreatDoorUa
import Derived.Test.YtleeadbceljfbaaGreatDoorQa1
namespace Go.Proofs.YtleeadbceljfbaaGreatDoor
set_option maxRecDepth 100000
open Go Go.RowKit Go.Sort
attribute [local go_sem] setCell_drewN alloc_drewN
/-- The wire type of a kind. -/
def tyOf (k : Int) : Int := if k = 2 then 5 else if k = 3 ∨ k = 7 then 1 else if k = 1 ∨ k = 4 then 0 else 2
theorem kind_cases (k : Int) : k = 1 ∨ k = 2 ∨ k = 3 ∨ k = 4 ∨ k = 5 ∨ k = 6 ∨ k = 7 ∨ k = 8 ∨ k = 9 ∨ (k ≠ 1 ∧ k ≠ 2 ∧ k ≠ 3 ∧ k ≠ 4 ∧ k ≠ 5 ∧ k ≠ 6 ∧ k ≠ 7 ∧ k ≠ 8 ∧ k ≠ 9) := by omega
def cpd (n : Nat) : Nat := if 4194305 < n then 4194305 else n
theorem cpd_le (n : Nat) : cpd n ≤ 4194305 := by unfold cpd; split <;> omega
/-- So many bytes with their number ahead. -/
def frm (n : Nat) : Nat := cpd (n + (en n).length)
/-- Whether bounds and Sub are as the table says. -/
def fitB (k : Int) (r l0 m0 al c5 c6 c7 c8 : Bool) : Bool :=
  if k = 1 ∨ k = 3 then r && al else if k = 2 then r && al && c5 else if k = 4 then l0 && m0 && al else if k = 5 ∨ k = 6 then r && al && c6
  else if k = 7 then l0 && c7 && al else if k = 8 then l0 && m0 else if k = 9 then r && c8 else false
/-- The same of numbers. -/
def fitN (k l m : Int) (n : Nat) : Bool := fitB k (decide (l ≤ m)) (l == 0) (m == 0) ((n : Int) == 0) (decide (m < 4294967296)) (decide (m ≤ 4194304)) (decide (m ≤ 9007199254740992)) (decide (m ≤ 4096))
theorem infoS : (Tryz.prog.info? 99).map (·.size) = some 5 := by kernel_rfl
theorem bSl (cs : Array Value) (W : World) : (Instr.box 99 (.agg cs)).run Tryz.prog W = .ok (.pointer (some ⟨W.heap.size, 0, none⟩)) (W.alloc (.cells cs 99)) := by kernel_rfl
theorem zSl (W : World) : (Instr.alloc 99 true (.tuple #[])).run Tryz.prog W = .ok (.pointer (some ⟨W.heap.size, 0, none⟩)) (W.alloc (.cells #[.int .i64 0, .int .i64 0, .int .u64 0, .int .u64 0, .slice none 0 0] 99)) := by kernel_rfl
end Go.Proofs.YtleeadbceljfbaaGreatDoor
