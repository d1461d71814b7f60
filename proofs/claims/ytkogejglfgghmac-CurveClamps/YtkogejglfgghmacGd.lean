import Derived.Test.YtkogejglfgghmacProg
import Derived.WalkKit
import Derived.WalkSpells
import Derived.WalkLawsBesides
import Derived.Lib.QuietBelow
import Derived.BigQuiet
import Derived.Test.YtkogejglfgghmacKit
import Derived.Test.YtkogejglfgghmacKeq
import Derived.Test.YtkogejglfgghmacKit3
import Derived.Test.YtkogejglfgghmacTail
import Derived.Test.YtkogejglfgghmacFa
import Derived.Test.YtkogejglfgghmacFc
import Derived.Test.YtkogejglfgghmacFf
import Derived.Test.YtkogejglfgghmacGb
import Derived.Test.YtkogejglfgghmacGc
namespace Go.Proofs.Ytkogejglfgghmac
open Go.RowKit Go.Sort
attribute [local go_sem] setCell_drewN alloc_drewN


theorem one_mod : v5 1 0 0 0 0 % prm = 1 := by decide
theorem none_mod : v5 0 0 0 0 0 % prm = 0 := by decide

end Go.Proofs.Ytkogejglfgghmac

