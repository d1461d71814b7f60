import Derived.Test.YtgfeacnhdlgpoaaDoorProg
import Derived.WalkKit
import Derived.WalkSpells
import Derived.WalkLawsBesides
import Derived.Lib.QuietBelow
import Derived.BigQuiet
import Derived.Test.YtgfeacnhdlgpoaaDoorKa
import Derived.Test.YtgfeacnhdlgpoaaDoorHw
import Derived.OwnWalk
namespace Go.Proofs.YtgfeacnhdlgpoaaDoor
set_option maxRecDepth 100000
open Go Go.RowKit Go.Sort
attribute [local go_sem] setCell_drewN alloc_drewN

/-- The marked room behind what is lent. -/
def marks (k : Nat) : List Int := (List.range k).map fun (i : Nat) => 171 + ((i % 60 : Nat) : Int)
theorem marks_succ (k : Nat) : marks (k + 1) = marks k ++ [171 + ((k % 60 : Nat) : Int)] := by simp [marks, List.range_succ]
theorem at_low (bs : List Int) (k : Nat) (hk : k < bs.length) : (bs ++ marks 80).getD k 0 = bs.getD k 0 := by
  simp [List.getD_eq_getElem?_getD, List.getElem?_append_left hk]
theorem at_high (bs : List Int) (k : Nat) (hk : ¬ k < bs.length) (hu : k < bs.length + 80) : (bs ++ marks 80).getD k 0 = 171 + ((k : Int) - bs.length) % 60 := by
  have : k - bs.length < 80 := by omega
  rw [List.getD_eq_getElem?_getD, List.getElem?_append_right (by omega)]
  simp [marks, this]
  omega
end Go.Proofs.YtgfeacnhdlgpoaaDoor

