import Derived.Test.YtkogejglfgghmacProg
import Derived.WalkKit
import Derived.WalkSpells
import Derived.WalkLawsBesides
import Derived.Lib.QuietBelow
import Derived.BigQuiet
import Derived.Test.YtkogejglfgghmacKit
import Derived.Test.YtkogejglfgghmacMd
import Derived.Test.YtkogejglfgghmacKit2
import Derived.Test.YtkogejglfgghmacTail
import Derived.Test.YtkogejglfgghmacFb
import Derived.Test.YtkogejglfgghmacMe
namespace Go.Proofs.Ytkogejglfgghmac
open Go.RowKit Go.Sort
attribute [local go_sem] setCell_drewN alloc_drewN


end Go.Proofs.Ytkogejglfgghmac

