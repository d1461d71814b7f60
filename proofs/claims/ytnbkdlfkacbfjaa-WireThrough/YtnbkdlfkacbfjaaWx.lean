import Derived.Test.YtnbkdlfkacbfjaaProg
import Derived.WalkKit
import Derived.WalkSpells
import Derived.WalkLawsBesides
import Derived.Lib.QuietBelow
import Derived.Laws.BitsAllLaws
import Derived.BigQuiet
import Derived.WalkMore
import Derived.Test.YtnbkdlfkacbfjaaKit
import Derived.Test.YtnbkdlfkacbfjaaWv
import Derived.Test.YtnbkdlfkacbfjaaWw
namespace Go.Proofs.Ytnbkdlfkacbfjaa
open Go Go.RowKit Go.Sort
attribute [local go_sem] setCell_drewN alloc_drewN

theorem setRow_sz (w : World) (g : Nat) (cs : Array Value) : (w.setRow g cs).heap.size = w.heap.size := by
  show (w.heap.modify _ _).size = _
  rw [Array.size_modify]
end Go.Proofs.Ytnbkdlfkacbfjaa
