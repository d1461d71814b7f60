import Derived.Test.YtgfhoabgbgddbaaDoorProg
import Derived.WalkKit
import Derived.WalkSpells
import Derived.WalkLawsBesides
import Derived.Lib.QuietBelow
import Derived.BigQuiet
import Derived.Test.YtgfhoabgbgddbaaDoorKa
import Derived.Test.YtgfhoabgbgddbaaDoorGp
namespace Go.Proofs.YtgfhoabgbgddbaaDoor
set_option maxRecDepth 100000
open Go.RowKit Go.Sort
attribute [local go_sem] setCell_drewN alloc_drewN


theorem and8 (x : Int) (h0 : 0 ≤ x) (h1 : x < 256) : bits .and .u8 x 1 = x % 2 := by
  rw [u8_and x 1 h0 h1 (by decide) (by decide)]
  have e : (1 : Int).toNat = 1 := by decide
  rw [e, nat_mask1]
  omega
theorem bit_at (z : Int) (j : Nat) (h0 : 0 ≤ z) (h1 : z < 256) : (bits .and .u8 (z / 2 ^ j) 1 == 1) = decide (z.toNat / 2 ^ j % 2 = 1) := by
  obtain ⟨m, rfl⟩ := Int.eq_ofNat_of_zero_le h0
  have e : (m : Int) / 2 ^ j = ((m / 2 ^ j : Nat) : Int) := by simp
  have hle := Nat.div_le_self m (2 ^ j)
  rw [e, Int.toNat_natCast]
  generalize m / 2 ^ j = q at *
  rw [and8 _ (by omega) (by omega)]
  by_cases h : q % 2 = 1
  · rw [decide_eq_true h, beq_iff_eq]; omega
  · rw [decide_eq_false h, beq_eq_false_iff_ne]; omega
theorem bit_iff (z : Int) (j : Nat) (h0 : 0 ≤ z) (h1 : z < 256) : (bits .and .u8 (z / 2 ^ j) 1 = 1) = (z.toNat / 2 ^ j % 2 = 1) := by
  have := bit_at z j h0 h1
  apply propext
  constructor
  · intro h; rw [h] at this; exact of_decide_eq_true this.symm
  · intro h; rw [decide_eq_true h] at this; exact beq_iff_eq.1 this
end Go.Proofs.YtgfhoabgbgddbaaDoor

