import Derived.Test.YtnbkdlfkacbfjaaProg
import Derived.WalkKit
import Derived.WalkSpells
import Derived.WalkLawsBesides
import Derived.Lib.QuietBelow
import Derived.Laws.BitsAllLaws
import Derived.BigQuiet
import Derived.WalkMore
import Derived.Test.YtnbkdlfkacbfjaaKit
import Derived.Test.YtnbkdlfkacbfjaaWt
namespace Go.Proofs.Ytnbkdlfkacbfjaa
open Go Go.RowKit Go.Sort
attribute [local go_sem] setCell_drewN alloc_drewN

set_option maxHeartbeats 1000000 in
theorem r_known (t : Int) : Gives 15 #[.int .i64 t] (.bool (decide (known t))) := by
  intro w
  by_cases hk : known t
  · rw [decide_eq_true hk]
    rcases hk with rfl | rfl | rfl | rfl
    all_goals
      go_enter Try.func15, Try.ntmps15
      go_wp2_with (fail)
      go_ret
      exact ⟨rfl, Below.refl _ _⟩
  · rw [decide_eq_false hk]
    have q0 : (t == 0) = false := by unfold known at hk; simp; omega
    have q1 : (t == 1) = false := by unfold known at hk; simp; omega
    have q2 : (t == 2) = false := by unfold known at hk; simp; omega
    have q5 : (t == 5) = false := by unfold known at hk; simp; omega
    clear hk
    go_enter Try.func15, Try.ntmps15
    go_wp2_with (fail)
    go_ret
    exact ⟨rfl, Below.refl _ _⟩
theorem fits_iff (f : Fd) : fits f ↔ if f.ty = 2 then f.num = 0 else f.dat = [] ∧ (f.ty = 5 → f.num ≤ 4294967295) := Iff.rfl
theorem by_rem (n : Nat) : (n : Int) % 256 = bv (BitVec.ofNat 8 (n % 256)) := by_mod n
end Go.Proofs.Ytnbkdlfkacbfjaa
