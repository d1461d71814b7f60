import Derived.Test.YtkpjpdlamojejaaDoorOlaid
import Derived.Test.YtkpjpdlamojejaaDoorSgb
namespace Go.Proofs.YtkpjpdlamojejaaDoor
set_option maxRecDepth 100000
open Go.ChangeShapes Go.WideShapes Go.ChangeAt Go.WideMaps Go.WideElems Go.RowKit

theorem three_of_laid {W : World} (h : laidMetH Tryd.prog [("pawl/field.fourfold", Rows.laid_pawl_field_fourfold), ("pawl/hash.start", Rows.laid_pawl_hash_start), ("pawl/hash.constants", Rows.laid_pawl_hash_constants)] W) : Lo.Four W ∧ Sta W ∧ Kon W := by
  rw [MakeChecks.laidMetH_plain _ _ _ (by kernel_rfl)] at h
  obtain ⟨ps, ⟨g9, t9, cs9, f9, p9, q9, hg9, ht9, hv9, hd9, ⟨g0, t0, cs0, f0, p0, q0, hg0, ht0, hv0, hd0, ⟨g1, t1, cs1, f1, p1, q1, hg1, ht1, hv1, hd1, _⟩, _⟩, _⟩, _, _⟩ := h
  obtain rfl := Option.some.inj (Lo.gFour.symm.trans hg9)
  obtain rfl := Option.some.inj (Lo.tFour.symm.trans ht9)
  obtain rfl := Lo.row5_of Tryd.underlying58 Tryd.underlying57 Lo.c1 Lo.c5 hd9
  obtain rfl := Option.some.inj (gSta.symm.trans hg0)
  obtain rfl := Option.some.inj (tSta.symm.trans ht0)
  obtain rfl := rowN_of (ks := sl) Tryd.underlying88 Tryd.underlying87 cU32 c23 hd0
  obtain rfl := Option.some.inj (gCon.symm.trans hg1)
  obtain rfl := Option.some.inj (tCon.symm.trans ht1)
  obtain rfl := rowN_of (ks := kl) Tryd.underlying120 Tryd.underlying87 cU32 c57 hd1
  exact ⟨Lo.four_of_cells hv9, row_of_var gSta hv0, row_of_var gCon hv1⟩

end Go.Proofs.YtkpjpdlamojejaaDoor
