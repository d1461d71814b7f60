import Derived.Test.YtkpjpdlamojejaaDoorProg
import Derived.WalkKit
import Derived.WalkSpells
import Derived.WalkLawsBesides
import Derived.Lib.QuietBelow
import Derived.BigQuiet
import Derived.Test.YtkpjpdlamojejaaDoorKa
import Derived.Test.YtkpjpdlamojejaaDoorMa
namespace Go.Proofs.YtkpjpdlamojejaaDoor.Lo
set_option maxRecDepth 100000
open Go.RowKit Go.Sort
attribute [local go_sem] setCell_drewN alloc_drewN


theorem cstep (d c : Int) (l : 0 ≤ d) (u : d ≤ 1125899906842624) (lc : 0 ≤ c) (uc : c ≤ 17180200000) : ∃ e c' : Int, (d + c) / 65536 = c' ∧ (d + c) % 65536 = e ∧ Hid (e + 65536 * c' = d + c) ∧ 0 ≤ c' ∧ c' ≤ 17180200000 ∧ 0 ≤ e ∧ e < 65536 :=
  ⟨_, _, rfl, rfl, by unfold Hid; omega, by omega, by omega, by omega, by omega⟩
theorem cstep0 (d : Int) (l : 0 ≤ d) (u : d ≤ 1125899906842624) : ∃ e c' : Int, d / 65536 = c' ∧ d % 65536 = e ∧ Hid (e + 65536 * c' = d) ∧ 0 ≤ c' ∧ c' ≤ 17180200000 ∧ 0 ≤ e ∧ e < 65536 :=
  ⟨_, _, rfl, rfl, by unfold Hid; omega, by omega, by omega, by omega, by omega⟩

end Go.Proofs.YtkpjpdlamojejaaDoor.Lo


namespace Go.Proofs.YtkpjpdlamojejaaDoor.Lo
set_option maxRecDepth 100000
open Go.RowKit Go.Sort
attribute [local go_sem] setCell_drewN alloc_drewN


theorem mstep (x y b : Int) (l : 0 ≤ x) (u : x < 65536) (ly : 0 ≤ y) (uy : y < 65536) (lb : 0 ≤ b) (ub : b ≤ 1) : ∃ e b' : Int, 1 - (x + 65536 - y - b) / 65536 = b' ∧ (x + 65536 - y - b) % 65536 = e ∧ Hid (e - 65536 * b' = x - y - b) ∧ 0 ≤ b' ∧ b' ≤ 1 ∧ 0 ≤ e ∧ e < 65536 :=
  ⟨_, _, rfl, rfl, by unfold Hid; omega, by omega, by omega, by omega, by omega⟩

theorem mstep0 (x y : Int) (l : 0 ≤ x) (u : x < 65536) (ly : 0 ≤ y) (uy : y < 65536) : ∃ e b' : Int, 1 - (x + 65536 - y) / 65536 = b' ∧ (x + 65536 - y) % 65536 = e ∧ Hid (e - 65536 * b' = x - y) ∧ 0 ≤ b' ∧ b' ≤ 1 ∧ 0 ≤ e ∧ e < 65536 :=
  ⟨_, _, rfl, rfl, by unfold Hid; omega, by omega, by omega, by omega, by omega⟩

end Go.Proofs.YtkpjpdlamojejaaDoor.Lo

