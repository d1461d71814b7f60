import Derived.Test.YtkogejglfgghmacProg
import Derived.WalkKit
import Derived.WalkSpells
import Derived.WalkLawsBesides
import Derived.Lib.QuietBelow
import Derived.BigQuiet
import Derived.Test.YtkogejglfgghmacKit
import Derived.Test.YtkogejglfgghmacMath
namespace Go.Proofs.Ytkogejglfgghmac
open Go.RowKit Go.Sort
attribute [local go_sem] setCell_drewN alloc_drewN


theorem cstep (d c : Int) (l : 0 ≤ d) (u : d ≤ 1125899906842624) (lc : 0 ≤ c) (uc : c ≤ 17180200000) : ∃ e c' : Int, (d + c) / 65536 = c' ∧ (d + c) % 65536 = e ∧ Hid (e + 65536 * c' = d + c) ∧ 0 ≤ c' ∧ c' ≤ 17180200000 ∧ 0 ≤ e ∧ e < 65536 :=
  ⟨_, _, rfl, rfl, by unfold Hid; omega, by omega, by omega, by omega, by omega⟩
theorem cstep0 (d : Int) (l : 0 ≤ d) (u : d ≤ 1125899906842624) : ∃ e c' : Int, d / 65536 = c' ∧ d % 65536 = e ∧ Hid (e + 65536 * c' = d) ∧ 0 ≤ c' ∧ c' ≤ 17180200000 ∧ 0 ≤ e ∧ e < 65536 :=
  ⟨_, _, rfl, rfl, by unfold Hid; omega, by omega, by omega, by omega, by omega⟩

end Go.Proofs.Ytkogejglfgghmac

