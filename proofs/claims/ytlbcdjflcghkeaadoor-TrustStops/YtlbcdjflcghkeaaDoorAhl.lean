import Derived.Test.YtlbcdjflcghkeaaDoorSgb
import Derived.Test.YtlbcdjflcghkeaaDoorAhf
namespace Go.Proofs.YtlbcdjflcghkeaaDoor
set_option maxRecDepth 100000
open Go.ChangeShapes Go.WideShapes Go.ChangeAt Go.WideMaps Go.WideElems Go.RowKit
theorem gPow : Tryd.prog.globalNamed "internal/strconv.uint64pow10" = some 3 := by kernel_rfl
theorem tPow : (Tryd.prog.globals[3]?).map (·.type) = some 142 := by kernel_rfl
theorem cU64 : Tryd.prog.cellsOf 102 = 1 := by kernel_rfl
theorem cP20 : Tryd.prog.cellsOf 142 = 20 := by kernel_rfl
theorem five_of_laid {W : World} (h : laidMetH Tryd.prog [("math/bits.deBruijn32tab", Rows.laid_math_bits_deBruijn32tab), ("math/bits.deBruijn64tab", Rows.laid_math_bits_deBruijn64tab), ("internal/strconv.uint64pow10", Rows.laid_internal_strconv_uint64pow10), ("pawl/hash.start", Rows.laid_pawl_hash_start), ("pawl/hash.constants", Rows.laid_pawl_hash_constants)] W) : Sta W ∧ Kon W ∧ Pow W := by
  rw [MakeChecks.laidMetH_plain _ _ _ (by kernel_rfl)] at h
  obtain ⟨ps, ⟨g7, t7, cs7, f7, p7, q7, hg7, ht7, hv7, hd7, ⟨g8, t8, cs8, f8, p8, q8, hg8, ht8, hv8, hd8, ⟨g9, t9, cs9, f9, p9, q9, hg9, ht9, hv9, hd9, ⟨g0, t0, cs0, f0, p0, q0, hg0, ht0, hv0, hd0, ⟨g1, t1, cs1, f1, p1, q1, hg1, ht1, hv1, hd1, _⟩, _⟩, _⟩, _⟩, _⟩, _, _⟩ := h
  obtain rfl := Option.some.inj (gPow.symm.trans hg9)
  obtain rfl := Option.some.inj (tPow.symm.trans ht9)
  obtain rfl := rowN_of (ks := Lib.pow10Tab) Tryd.underlying142 Tryd.underlying102 cU64 cP20 hd9
  obtain rfl := Option.some.inj (gSta.symm.trans hg0)
  obtain rfl := Option.some.inj (tSta.symm.trans ht0)
  obtain rfl := rowN_of (ks := sl) Tryd.underlying112 Tryd.underlying111 cU32 c23 hd0
  obtain rfl := Option.some.inj (gCon.symm.trans hg1)
  obtain rfl := Option.some.inj (tCon.symm.trans ht1)
  obtain rfl := rowN_of (ks := kl) Tryd.underlying126 Tryd.underlying111 cU32 c57 hd1
  exact ⟨row_of_var gSta hv0, row_of_var gCon hv1, row_of_var gPow hv9⟩
end Go.Proofs.YtlbcdjflcghkeaaDoor
