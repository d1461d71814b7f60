import Derived.Test.YtkpjpdlamojejaaDoorProg
import Derived.WalkKit
import Derived.WalkSpells
import Derived.WalkLawsBesides
import Derived.Lib.QuietBelow
import Derived.BigQuiet
import Derived.Test.YtkpjpdlamojejaaDoorKa
import Derived.Test.YtkpjpdlamojejaaDoorRdh
import Derived.Test.YtkpjpdlamojejaaDoorRab
import Derived.Test.YtkpjpdlamojejaaDoorRc
import Derived.Test.YtkpjpdlamojejaaDoorAbe
namespace Go.Proofs.YtkpjpdlamojejaaDoor.Lo
set_option maxRecDepth 100000
open Go.RowKit Go.Sort
attribute [local go_sem] setCell_drewN alloc_drewN


theorem rd_agg (m : Int) : Value.agg (rd m) = .agg #[.int .u64 (dg (m) 0), .int .u64 (dg (m) 1), .int .u64 (dg (m) 2), .int .u64 (dg (m) 3), .int .u64 (dg (m) 4), .int .u64 (dg (m) 5), .int .u64 (dg (m) 6), .int .u64 (dg (m) 7), .int .u64 (dg (m) 8), .int .u64 (dg (m) 9), .int .u64 (dg (m) 10), .int .u64 (dg (m) 11), .int .u64 (dg (m) 12), .int .u64 (dg (m) 13), .int .u64 (dg (m) 14), .int .u64 (dg (m) 15)] := rfl
theorem rd_cell (m : Int) (i : Nat) (hi : i < 16) : (rd m)[i]? = some (.int .u64 (dg m i)) := by
  rcases (by omega : i = 0 ∨ i = 1 ∨ i = 2 ∨ i = 3 ∨ i = 4 ∨ i = 5 ∨ i = 6 ∨ i = 7 ∨ i = 8 ∨ i = 9 ∨ i = 10 ∨ i = 11 ∨ i = 12 ∨ i = 13 ∨ i = 14 ∨ i = 15) with rfl | rfl | rfl | rfl | rfl | rfl | rfl | rfl | rfl | rfl | rfl | rfl | rfl | rfl | rfl | rfl <;> rfl
theorem dg_inj {m k : Int} (h : inP m) (g : inP k) (e : ∀ j, j < 16 → dg m j = dg k j) : m = k := by
  rw [← v16_dg m h, ← v16_dg k g, e 0 (by decide), e 1 (by decide), e 2 (by decide), e 3 (by decide), e 4 (by decide), e 5 (by decide), e 6 (by decide), e 7 (by decide), e 8 (by decide), e 9 (by decide), e 10 (by decide), e 11 (by decide), e 12 (by decide), e 13 (by decide), e 14 (by decide), e 15 (by decide)]
end Go.Proofs.YtkpjpdlamojejaaDoor.Lo

