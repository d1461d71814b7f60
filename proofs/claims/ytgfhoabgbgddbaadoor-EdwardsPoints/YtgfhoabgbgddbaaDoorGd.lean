import Derived.Test.YtgfhoabgbgddbaaDoorProg
import Derived.WalkKit
import Derived.WalkSpells
import Derived.WalkLawsBesides
import Derived.Lib.QuietBelow
import Derived.BigQuiet
import Derived.Test.YtgfhoabgbgddbaaDoorKa
import Derived.Test.YtgfhoabgbgddbaaDoorKeq
import Derived.Test.YtgfhoabgbgddbaaDoorFa
import Derived.Test.YtgfhoabgbgddbaaDoorFc
import Derived.Test.YtgfhoabgbgddbaaDoorFf
import Derived.Test.YtgfhoabgbgddbaaDoorGb
import Derived.Test.YtgfhoabgbgddbaaDoorGc
namespace Go.Proofs.YtgfhoabgbgddbaaDoor
set_option maxRecDepth 100000
open Go.RowKit Go.Sort
attribute [local go_sem] setCell_drewN alloc_drewN


theorem small_one (w : World) : Calls Tryd.prog 47 #[.int .u64 1] w fun e w' => e = .returned (.agg #[.int .u64 1, .int .u64 0, .int .u64 0, .int .u64 0, .int .u64 0]) ∧ Below w.heap.size w w' := by
  have h := small_any 1 (by decide) (by decide) w
  have e1 : (1 : Int) % 2251799813685248 = 1 := by decide
  have e2 : (1 : Int) / 2251799813685248 = 0 := by decide
  rw [e1, e2] at h
  exact h
theorem one_mod : v5 1 0 0 0 0 % prm = 1 := by decide
theorem none_mod : v5 0 0 0 0 0 % prm = 0 := by decide

end Go.Proofs.YtgfhoabgbgddbaaDoor

