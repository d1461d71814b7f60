/-
  DERIVED. GIVEN WITH THE SEED: THE PROGRAM's TIES (one call each: nine closed facts by the kernel) AND EACH ROW's TIE, after the 31st guide's Derived/Test/Toyas{Tie, Card}.lean. No idea stands in it: it is a product of the set-up. Laid BY PROGRAM, IN A SANDBOX (cutbox-door.mjs). By AI agents, Wed Nov 11 2026. No macro, syntax, notation, axiom, sorry.
-/
import Derived.Test.YtdcpcdkbhgkmlaaDoorRows
import Derived.LaidByTextLater
import Derived.SevenTiedAt
import Derived.LaidSub
import Derived.LaidOnce
namespace Go.Proofs.YtdcpcdkbhgkmlaaDoor
open Go
set_option maxRecDepth 100000
theorem seatTie1 : Tryd.prog.laidByTextLater [("pawl/field.fourfold", Rows.laid_pawl_field_fourfold), ("pawl/field.unit", Rows.laid_pawl_field_unit), ("pawl/edwards.baseX", Rows.laid_pawl_edwards_baseX), ("pawl/edwards.baseY", Rows.laid_pawl_edwards_baseY), ("pawl/edwards.order", Rows.laid_pawl_edwards_order)] [.data, .data, .data, .data, .wider] true :=
  Program.laidByTextLater_by_one 35 8 33 (by kernel_rfl) (by kernel_rfl) (by kernel_rfl) (by kernel_rfl) (by kernel_rfl) (by kernel_rfl) (fun _ _ => by kernel_rfl)
theorem noOwnUnsafe : Tryd.pinned.checked.prog.headLifts.contains "ownunsafe" = false := by kernel_rfl
theorem tie : Tryd.prog.laidByTextLater [("pawl/field.fourfold", Rows.laid_pawl_field_fourfold), ("pawl/field.unit", Rows.laid_pawl_field_unit), ("pawl/edwards.baseX", Rows.laid_pawl_edwards_baseX), ("pawl/edwards.baseY", Rows.laid_pawl_edwards_baseY)] [.data, .data, .data, .data] true :=
  Program.laidByTextLater.sub seatTie1 ["pawl/field.fourfold", "pawl/field.unit", "pawl/edwards.baseX", "pawl/edwards.baseY"] (by kernel_rfl) (by kernel_rfl)
theorem edwardsScales_row_tie : Rows.edwardsScalesRow.laidByTextAt .later Tryd.pinned [.data, .data, .data, .data] true :=
  OpenClaim.laidByTextAt_later rfl rfl tie noOwnUnsafe
theorem tie2 : Tryd.prog.laidByTextLater [("pawl/edwards.order", Rows.laid_pawl_edwards_order)] [.wider] true :=
  Program.laidByTextLater.sub seatTie1 ["pawl/edwards.order"] (by kernel_rfl) (by kernel_rfl)
theorem edwardsScalars_row_tie : Rows.edwardsScalarsRow.laidByTextAt .later Tryd.pinned [.wider] true :=
  OpenClaim.laidByTextAt_later rfl rfl tie2 noOwnUnsafe
theorem edwardsScalesUpto_row_tie : Rows.edwardsScalesUptoRow.laidByTextAt .later Tryd.pinned [.data, .data, .data, .data] true :=
  OpenClaim.laidByTextAt_later rfl rfl tie noOwnUnsafe
theorem edwardsScalarsUpto_row_tie : Rows.edwardsScalarsUptoRow.laidByTextAt .later Tryd.pinned [.wider] true :=
  OpenClaim.laidByTextAt_later rfl rfl tie2 noOwnUnsafe
end Go.Proofs.YtdcpcdkbhgkmlaaDoor
