import Derived.Test.YtnbkdlfkacbfjaaProg
import Derived.WalkKit
import Derived.WalkSpells
import Derived.WalkLawsBesides
import Derived.Lib.QuietBelow
import Derived.Lib.Tables
import Derived.BigQuiet
import Derived.Test.YtnbkdlfkacbfjaaKit
import Derived.Test.YtnbkdlfkacbfjaaWb
namespace Go.Proofs.Ytnbkdlfkacbfjaa
open Go Go.RowKit Go.Sort
attribute [local go_sem] setCell_drewN alloc_drewN

theorem len8_ok : ∀ y : Fin 256, 0 < y.val → 0 < (Go.Lib.len8 (y.val : Int)).toNat ∧ (Go.Lib.len8 (y.val : Int)).toNat ≤ 8 ∧ 2 ^ ((Go.Lib.len8 (y.val : Int)).toNat - 1) ≤ y.val ∧ y.val < 2 ^ (Go.Lib.len8 (y.val : Int)).toNat ∧ Go.Lib.len8 (y.val : Int) = ((Go.Lib.len8 (y.val : Int)).toNat : Int) := by decide +kernel
theorem len8_at (y : Nat) (h : y < 256) (h0 : 0 < y) : ∃ t : Nat, 0 < t ∧ t ≤ 8 ∧ 2 ^ (t - 1) ≤ y ∧ y < 2 ^ t ∧ Go.Lib.len8 (y : Int) = (t : Int) := by
  obtain ⟨h1, h2, h3, h4, h5⟩ := len8_ok ⟨y, h⟩ h0
  exact ⟨_, h1, h2, h3, h4, h5⟩
theorem len_up {x y s t : Nat} (hy : y = x / 2 ^ s) (h1 : 2 ^ (t - 1) ≤ y) (h2 : y < 2 ^ t) (h0 : 0 < t) : 2 ^ (s + t - 1) ≤ x ∧ x < 2 ^ (s + t) := by
  have hp : 0 < 2 ^ s := Nat.pow_pos (by decide)
  subst hy
  refine ⟨?_, ?_⟩
  · rw [show s + t - 1 = (t - 1) + s by omega, Nat.pow_add]
    exact (Nat.le_div_iff_mul_le hp).1 h1
  · rw [Nat.add_comm, Nat.pow_add]
    exact (Nat.div_lt_iff_lt_mul hp).1 h2
end Go.Proofs.Ytnbkdlfkacbfjaa
