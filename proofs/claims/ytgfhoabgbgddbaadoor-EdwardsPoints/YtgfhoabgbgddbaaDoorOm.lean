import Derived.Test.YtgfhoabgbgddbaaDoorOlaid
import Derived.Test.YtgfhoabgbgddbaaDoorBo
import Derived.ChangeSame
namespace Go.Proofs.YtgfhoabgbgddbaaDoor
set_option maxRecDepth 100000
open Go.ChangeShapes Go.WideShapes Go.ChangeAt Go.WideMaps Go.WideElems Go.RowKit

theorem gUnit : Tryd.prog.globalNamed "pawl/field.unit" = some 4 := by kernel_rfl
theorem tUnit : (Tryd.prog.globals[4]?).map (·.type) = some 27 := by kernel_rfl
theorem cNum : Tryd.prog.cellsOf 27 = 5 := by kernel_rfl

/-- What the condition gives: the cells of both variables. -/
theorem both_of_laid {W : World} (h : laidMetH Tryd.prog [("pawl/field.fourfold", Rows.laid_pawl_field_fourfold), ("pawl/field.unit", Rows.laid_pawl_field_unit)] W) : Both W := by
  rw [MakeChecks.laidMetH_plain _ _ _ (by kernel_rfl)] at h
  obtain ⟨ps, ⟨g0, t0, cs0, f0, p0, q0, hg0, ht0, hv0, hd0, ⟨g1, t1, cs1, f1, p1, q1, hg1, ht1, hv1, hd1, _⟩, _⟩, _, _⟩ := h
  obtain rfl := Option.some.inj (gFour.symm.trans hg0)
  obtain rfl := Option.some.inj (tFour.symm.trans ht0)
  obtain rfl := row5_of Tryd.underlying25 Tryd.underlying24 c1 c5 hd0
  obtain rfl := Option.some.inj (gUnit.symm.trans hg1)
  obtain rfl := Option.some.inj (tUnit.symm.trans ht1)
  obtain ⟨y0, n, hx, hl, hy⟩ := trod_struct1 Tryd.underlying27 hd1
  have hx' : y0 = (.agg [.lit (.int .u64 1718705420411056), .lit (.int .u64 234908883556509), .lit (.int .u64 2233514472574048), .lit (.int .u64 2117202627021982), .lit (.int .u64 765476049583133)], y0.2) := by
    simp only [Rows.laid_pawl_field_unit, Prod.mk.injEq, DataW.agg.injEq, List.cons.injEq, and_true] at hx
    exact Prod.ext hx.1.symm rfl
  rw [hx'] at hy
  rw [cNum] at hl
  have e5 : (cs1.toList.drop 0).take 5 = cs1.toList := by rw [List.drop_zero, ← hl]; exact List.take_length
  have hy2 : DataW.trod (fun _ => ()) Tryd.prog W 0 (fun _ => true) false n 25 cs1.toList = some (.agg [.lit (.int .u64 1718705420411056), .lit (.int .u64 234908883556509), .lit (.int .u64 2233514472574048), .lit (.int .u64 2117202627021982), .lit (.int .u64 765476049583133)], y0.2) := by
    have hy' := hy
    rw [show Tryd.prog.cellsOf _ = 5 from c5, e5] at hy'
    exact hy'
  obtain rfl := row5_of Tryd.underlying25 Tryd.underlying24 c1 c5 hy2
  refine ⟨four_of_cells hv0, ?_⟩
  unfold World.var? at hv1
  rw [gUnit] at hv1
  simp only [Option.bind_some] at hv1
  split at hv1
  · rename_i cs t fr hh
    obtain rfl := Option.some.inj hv1
    exact ⟨t, fr, hh⟩
  · cases hv1
end Go.Proofs.YtgfhoabgbgddbaaDoor
