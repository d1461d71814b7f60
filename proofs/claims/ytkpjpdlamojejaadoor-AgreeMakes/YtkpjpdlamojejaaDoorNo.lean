import Derived.Test.YtkpjpdlamojejaaDoorProg
import Derived.WalkKit
import Derived.WalkSpells
import Derived.WalkLawsBesides
import Derived.Lib.QuietBelow
import Derived.BigQuiet
import Derived.Test.YtkpjpdlamojejaaDoorKa
import Derived.Test.YtkpjpdlamojejaaDoorNn
namespace Go.Proofs.YtkpjpdlamojejaaDoor
set_option maxRecDepth 100000
open Go Go.RowKit Go.Sort
attribute [local go_sem] setCell_drewN alloc_drewN

/-- What an answer of the reference's Expand or Derive is. -/
def RAns (W : World) (v : Value) (key info : List Int) (n : Int) : Prop := (∃ (m : Nat) (u : Value), n = (m : Int) ∧ m ≤ 8160 ∧ v = .tuple #[u, .int .i64 0] ∧ NB W u (xpd key info m)) ∨ ((n < 0 ∨ 8160 < n) ∧ v = .tuple #[.slice none 0 0, .int .i64 (if n < 0 then 1 else 2)])
end Go.Proofs.YtkpjpdlamojejaaDoor
