import Derived.Test.YtkogejglfgghmacProg
import Derived.WalkKit
import Derived.WalkSpells
import Derived.WalkLawsBesides
import Derived.Lib.QuietBelow
import Derived.BigQuiet
import Derived.Test.YtkogejglfgghmacKit
import Derived.Test.YtkogejglfgghmacMf
import Derived.Test.YtkogejglfgghmacKit3
import Derived.Test.YtkogejglfgghmacTail
import Derived.Test.YtkogejglfgghmacRc
import Derived.Test.YtkogejglfgghmacRf
namespace Go.Proofs.Ytkogejglfgghmac
open Go.RowKit Go.Sort
attribute [local go_sem] setCell_drewN alloc_drewN


theorem small_val (k : Int) : v5 (k % 2251799813685248) (k / 2251799813685248) 0 0 0 = k := by unfold v5; omega

end Go.Proofs.Ytkogejglfgghmac

