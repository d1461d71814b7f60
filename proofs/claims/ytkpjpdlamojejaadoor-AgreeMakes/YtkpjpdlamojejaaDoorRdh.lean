import Derived.Test.YtkpjpdlamojejaaDoorProg
import Derived.WalkKit
import Derived.WalkSpells
import Derived.WalkLawsBesides
import Derived.Lib.QuietBelow
import Derived.BigQuiet
import Derived.Test.YtkpjpdlamojejaaDoorKa
import Derived.Test.YtkpjpdlamojejaaDoorMa
import Derived.Test.YtkpjpdlamojejaaDoorRab
import Derived.Test.YtkpjpdlamojejaaDoorRc
import Derived.Test.YtkpjpdlamojejaaDoorAbe
import Derived.Test.YtkpjpdlamojejaaDoorRff
namespace Go.Proofs.YtkpjpdlamojejaaDoor.Lo
set_option maxRecDepth 100000
open Go.RowKit Go.Sort
attribute [local go_sem] setCell_drewN alloc_drewN


end Go.Proofs.YtkpjpdlamojejaaDoor.Lo


namespace Go.Proofs.YtkpjpdlamojejaaDoor.Lo
set_option maxRecDepth 100000
open Go.RowKit Go.Sort
attribute [local go_sem] setCell_drewN alloc_drewN


end Go.Proofs.YtkpjpdlamojejaaDoor.Lo


namespace Go.Proofs.YtkpjpdlamojejaaDoor.Lo
set_option maxRecDepth 100000
open Go.RowKit Go.Sort
attribute [local go_sem] setCell_drewN alloc_drewN


/-- The cells of the document's number m. -/
def rd (m : Int) : Array Value := #[.int .u64 (dg m 0), .int .u64 (dg m 1), .int .u64 (dg m 2), .int .u64 (dg m 3), .int .u64 (dg m 4), .int .u64 (dg m 5), .int .u64 (dg m 6), .int .u64 (dg m 7), .int .u64 (dg m 8), .int .u64 (dg m 9), .int .u64 (dg m 10), .int .u64 (dg m 11), .int .u64 (dg m 12), .int .u64 (dg m 13), .int .u64 (dg m 14), .int .u64 (dg m 15)]
theorem rd_size (m : Int) : (rd m).size = 16 := rfl
theorem rd_one (m : Int) : (rd m).all (·.oneCell') = true := by kernel_rfl
theorem rd_zero : rd 0 = #[.int .u64 0, .int .u64 0, .int .u64 0, .int .u64 0, .int .u64 0, .int .u64 0, .int .u64 0, .int .u64 0, .int .u64 0, .int .u64 0, .int .u64 0, .int .u64 0, .int .u64 0, .int .u64 0, .int .u64 0, .int .u64 0] := by simp [rd, dg]
/-- Below P. -/
def inP (m : Int) : Prop := 0 ≤ m ∧ m < prm
theorem inP_mod (x : Int) : inP (x % prm) := by unfold inP prm; omega
end Go.Proofs.YtkpjpdlamojejaaDoor.Lo


namespace Go.Proofs.YtkpjpdlamojejaaDoor.Lo
set_option maxRecDepth 100000
open Go.RowKit Go.Sort
attribute [local go_sem] setCell_drewN alloc_drewN


theorem v16_dg (m : Int) (h : inP m) : v16 (dg m 0) (dg m 1) (dg m 2) (dg m 3) (dg m 4) (dg m 5) (dg m 6) (dg m 7) (dg m 8) (dg m 9) (dg m 10) (dg m 11) (dg m 12) (dg m 13) (dg m 14) (dg m 15) = m := by
  obtain ⟨h0, h1⟩ := h
  rw [← sumN_v16]
  exact sumN_dg m h0 (by unfold prm at h1; omega)
end Go.Proofs.YtkpjpdlamojejaaDoor.Lo

