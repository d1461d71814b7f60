import Derived.Test.YtamieopjigjfiabDoorProg
import Derived.WalkKit
import Derived.WalkSpells
import Derived.WalkLawsBesides
import Derived.Lib.QuietBelow
import Derived.BigQuiet
import Derived.Test.YtamieopjigjfiabDoorKa
import Derived.Test.YtamieopjigjfiabDoorWo
import Derived.Test.YtamieopjigjfiabDoorNn
import Derived.Laws.BytesArg
import Derived.OwnWalk

namespace Go.Proofs.YtamieopjigjfiabDoor
set_option maxRecDepth 100000
open Go Go.RowKit Go.Sort
attribute [local go_sem] setCell_drewN alloc_drewN

set_option maxRecDepth 100000 in
set_option maxHeartbeats 4000000 in
theorem s_same (a b : List Int) (w : World) (u v : Value) (hu : Bys w u a) (hv : Bys w v b) : Calls Tryd.prog 11 #[u, v] w fun e w' => e = .returned (.bool (decide (a = b))) ∧ Below w.heap.size w w' := by
  have c1 := conv_bys hu
  have c2 := conv_bys hv
  obtain ⟨ao, cap, rfl, _, _, hza⟩ := hu
  obtain ⟨bo, bcap, rfl, _, _, hzb⟩ := hv
  go_enter Tryd.func11, Tryd.ntmps11
  have hd := str_dec hza hzb
  go_wp2
  go_ret
  exact ⟨rfl, Below.refl _ _⟩
end Go.Proofs.YtamieopjigjfiabDoor
