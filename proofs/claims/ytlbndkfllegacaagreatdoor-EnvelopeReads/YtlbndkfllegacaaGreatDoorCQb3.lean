import Derived.Test.YtlbndkfllegacaaGreatDoorCQa8
import Derived.OwnWalk
import Derived.Deep.Cut
import Derived.Deep.RegionHeld3
namespace Go.Proofs.YtlbndkfllegacaaGreatDoor
set_option maxRecDepth 100000
open Go Go.RowKit Go.Sort
attribute [local go_sem] setCell_drewN alloc_drewN
theorem infoFi : (Tryz.prog.info? 70).map (·.size) = some 4 := by kernel_rfl
def wtK (t : Slt) : Int := if t.kind = 2 then 5 else if t.kind = 3 then 1 else if t.kind = 5 then 2 else 0
end Go.Proofs.YtlbndkfllegacaaGreatDoor
namespace Go.Proofs.YtlbndkfllegacaaGreatDoor
set_option maxRecDepth 100000
open Go Go.RowKit Go.Sort
attribute [local go_sem] setCell_drewN alloc_drewN
theorem wp_val_op {P : Program} {o : Oper} {a : Act} {w w' : World} {K : Act → World → Prop} {Q : Exit → Act → World → Prop} (v : Value) (hx : (execOp a.eval o).run P w = .ok (.value v) w') (h : K (a.put o.dst v) w') : o.wp P a w K Q := by
 unfold Oper.wp
 rw [hx, Oper.upon_value]
 exact h
end Go.Proofs.YtlbndkfllegacaaGreatDoor
namespace Go.Proofs.YtlbndkfllegacaaGreatDoor
set_option maxRecDepth 100000
open Go Go.RowKit Go.Sort
attribute [local go_sem] setCell_drewN alloc_drewN
theorem neq_nils (W : World) : (binOp .neq 30 .nilIface .nilIface).run Tryz.prog W = .ok (.bool false) W := by kernel_rfl
theorem neq_fault (v : Value) (W : World) : (binOp .neq 30 (.iface 85 v) .nilIface).run Tryz.prog W = .ok (.bool true) W := by kernel_rfl
end Go.Proofs.YtlbndkfllegacaaGreatDoor
namespace Go.Proofs.YtlbndkfllegacaaGreatDoor
set_option maxRecDepth 100000
open Go Go.RowKit Go.Sort
attribute [local go_sem] setCell_drewN alloc_drewN
end Go.Proofs.YtlbndkfllegacaaGreatDoor

