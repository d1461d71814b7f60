import Derived.Test.YtkickbgiidhpfaaDoorProg
import Derived.WalkKit
import Derived.WalkSpells
import Derived.WalkLawsBesides
import Derived.Lib.QuietBelow
import Derived.BigQuiet
import Derived.OwnWalk
import Derived.Lib.SlBytesConst
import Derived.OrdersHeld
import Derived.Deep.RegionHeld3
import Derived.Test.YtkickbgiidhpfaaDoorKa
import Derived.Test.YtkickbgiidhpfaaDoorCqb
import Derived.Test.YtkickbgiidhpfaaDoorNo
namespace Go.Proofs.YtkickbgiidhpfaaDoor
open Go Go.RowKit Go.Sort
attribute [local go_sem] setCell_drewN alloc_drewN


/-- A slice's room. -/
def vcap : Value → Nat
  | .slice _ _ c => c
  | _ => 0
end Go.Proofs.YtkickbgiidhpfaaDoor
