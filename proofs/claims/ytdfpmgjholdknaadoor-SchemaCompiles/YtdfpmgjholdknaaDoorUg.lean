import Derived.Test.YtdfpmgjholdknaaDoorProg
import Derived.WalkKit
import Derived.WalkSpells
import Derived.WalkLawsBesides
import Derived.Lib.QuietBelow
import Derived.Laws.BitsAllLaws
import Derived.BigQuiet
import Derived.WalkMore
import Derived.Test.YtdfpmgjholdknaaDoorKa
import Derived.Test.YtdfpmgjholdknaaDoorUf
namespace Go.Proofs.YtdfpmgjholdknaaDoor
set_option maxRecDepth 100000
open Go Go.RowKit Go.Sort
attribute [local go_sem] setCell_drewN alloc_drewN
theorem a_headOf (n : Nat) (hn : n ≤ 536870911) : Gives 20 #[.int .i64 (n : Int)] (.int .u64 ((8 * n : Nat) : Int)) := by
  intro w
  have e : ((8 * n : Nat) : Int) = 8 * (n : Int) := by omega
  rw [e]
  clear e
  go_enter Tryd.func20, Tryd.ntmps20
  go_wp2_with (fail)
  go_ret
  exact ⟨rfl, Below.refl _ _⟩
theorem a_sizeOf (n : Nat) (hn : n < 18446744073709551616) : Gives 19 #[.int .u64 (n : Int)] (.int .u64 ((en n).length : Int)) := by
  intro w
  have cS := a_size n hn w
  have hel := en_ten hn
  generalize (en n).length = m at *
  go_enter Tryd.func19, Tryd.ntmps19
  go_wp2_with (fail)
  refine cS.mono ?_
  rintro e_ w1 ⟨rfl, hb⟩
  go_wp2_with (fail)
  go_ret
  exact ⟨rfl, hb⟩
theorem a_counted (n : Nat) (hn : n < 4611686018427387904) : Gives 108 #[.int .u64 (n : Int)] (.int .u64 (((en n).length + n : Nat) : Int)) := by
  intro w
  have cS := a_sizeOf n (by omega) w
  have hel := en_ten (n := n) (by omega)
  generalize (en n).length = m at *
  have e : ((m + n : Nat) : Int) = (m : Int) + (n : Int) := by omega
  rw [e]
  clear e
  go_enter Tryd.func108, Tryd.ntmps108
  go_wp2_with (fail)
  refine cS.mono ?_
  rintro e_ w1 ⟨rfl, hb⟩
  go_wp2_with (fail)
  go_ret
  exact ⟨rfl, hb⟩
end Go.Proofs.YtdfpmgjholdknaaDoor
