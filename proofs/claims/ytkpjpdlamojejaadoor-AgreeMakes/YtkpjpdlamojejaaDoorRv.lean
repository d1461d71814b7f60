import Derived.Test.YtkpjpdlamojejaaDoorProg
import Derived.WalkKit
import Derived.WalkSpells
import Derived.WalkLawsBesides
import Derived.Lib.QuietBelow
import Derived.BigQuiet
import Derived.Test.YtkpjpdlamojejaaDoorKa
import Derived.Test.YtkpjpdlamojejaaDoorGpr
import Derived.Test.YtkpjpdlamojejaaDoorRi
import Derived.Test.YtkpjpdlamojejaaDoorKim
namespace Go.Proofs.YtkpjpdlamojejaaDoor.Lo
set_option maxRecDepth 100000
open Go.RowKit Go.Sort
attribute [local go_sem] setCell_drewN alloc_drewN


theorem bval_n255 : bval ((nl 255).set 0 (255 - (21 - 1))) = 57896044618658097711785492504343953926634992332820282019728792003956564819947 := by decide +kernel
end Go.Proofs.YtkpjpdlamojejaaDoor.Lo
