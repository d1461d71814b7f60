import Derived.Test.YtgfeacnhdlgpoaaDoorProg
import Derived.WalkKit
import Derived.WalkSpells
import Derived.WalkLawsBesides
import Derived.Lib.QuietBelow
import Derived.BigQuiet
import Derived.Test.YtgfeacnhdlgpoaaDoorKa
import Derived.Test.YtgfeacnhdlgpoaaDoorHf
namespace Go.Proofs.YtgfeacnhdlgpoaaDoor
set_option maxRecDepth 100000
open Go Go.RowKit Go.Sort
attribute [local go_sem] setCell_drewN alloc_drewN

theorem infoU32 : ∃ i, Tryd.prog.info? 98 = some i := ⟨_, rfl⟩
theorem cellsU32 : Tryd.prog.cellsOf 98 = 1 := by kernel_rfl
theorem eq23 (l m : List Int) (hl : l.length = 8) (hm : m.length = 8) (w : World) : (Op.equalIn 10000 99 (.agg (irow .u32 l)) (.agg (irow .u32 m))).run Tryd.prog w = .ok (decide (l = m)) w := by
  obtain ⟨i0, hi⟩ := infoU32
  exact run_equal_ints w Tryd.underlying99 Tryd.underlying98 hi cellsU32 l m hl hm
end Go.Proofs.YtgfeacnhdlgpoaaDoor

