import Derived.Test.YtcgicojdmpjalabPlb
namespace Go.Proofs.Ytcgicojdmpjalab
open Go Go.RowKit Go.Sort
attribute [local go_sem] setCell_drewN alloc_drewN
/-- A word against 180 from above and against its opposite from below. -/
theorem refused {b : Nat} (h : ¬ b % 2 ^ 63 ≤ 0x4066800000000000) (hx : ¬ b / 2 ^ 52 % 2048 = 2047) :
    (FloatKind.f64.format.order b 13863909240395005952 = some .lt) ∨ (FloatKind.f64.format.order b 13863909240395005952 = some .gt ∧ FloatKind.f64.format.order b 4640537203540230144 = some .gt) := by
  have e := order_180 b false
  have e' := order_180 b true
  rw [show Ieee.double.order b (w180 false) = FloatKind.f64.format.order b 4640537203540230144 from rfl] at e
  rw [show Ieee.double.order b (w180 true) = FloatKind.f64.format.order b 13863909240395005952 from rfl] at e'
  rw [if_neg (show ¬ 2047 * 2 ^ 52 < b % 2 ^ 63 by omega)] at e e'
  rw [e, e']
  cases (b / 2 ^ 63 % 2 == 1)
  · right
    simp only [Bool.false_eq_true, if_true, if_false]
    exact ⟨trivial, by rw [Nat.compare_eq_gt.2 (by omega)]⟩
  · left
    simp only [if_true]
    rw [Nat.compare_eq_lt.2 (by omega)]
theorem taken {b : Nat} (h : b % 2 ^ 63 ≤ 0x4066800000000000) : ∃ o p, FloatKind.f64.format.order b 13863909240395005952 = some o ∧ FloatKind.f64.format.order b 4640537203540230144 = some p ∧ (some o == some Ordering.lt) = false ∧ (some p == some Ordering.gt) = false := by
  have e := order_180 b false
  have e' := order_180 b true
  rw [show Ieee.double.order b (w180 false) = FloatKind.f64.format.order b 4640537203540230144 from rfl] at e
  rw [show Ieee.double.order b (w180 true) = FloatKind.f64.format.order b 13863909240395005952 from rfl] at e'
  rw [if_neg (show ¬ 2047 * 2 ^ 52 < b % 2 ^ 63 by omega)] at e e'
  rw [e, e']
  refine ⟨_, _, rfl, rfl, ?_, ?_⟩
  · cases (b / 2 ^ 63 % 2 == 1)
    · rfl
    · simp only [if_true]
      rcases Nat.lt_or_ge (b % 2 ^ 63) 0x4066800000000000 with x | x
      · rw [Nat.compare_eq_gt.2 x]; rfl
      · rw [Nat.compare_eq_eq.2 (by omega)]; rfl
  · cases (b / 2 ^ 63 % 2 == 1)
    · simp only [if_true, Bool.false_eq_true, if_false]
      rcases Nat.lt_or_ge (b % 2 ^ 63) 0x4066800000000000 with x | x
      · rw [Nat.compare_eq_lt.2 x]; rfl
      · rw [Nat.compare_eq_eq.2 (by omega)]; rfl
    · rfl
theorem stp_eq {r : Nat} (h : ex r ≤ 1074) : stp r = rnd (mg r * 10000000) (1074 - ex r) := by
  unfold stp val
  rw [Nat.mul_right_comm, show dd = 1074 - ex r + ex r by rw [dd_eq]; omega, rnd_scale]
theorem sg_of {b : Nat} (hb : b < 2 ^ 64) (n : Nat) : sg (b / 2 ^ 63 % 2 == 1) n = if (b : Int) / 9223372036854775808 = 1 then -(n : Int) else n := by
  by_cases hn : (b : Int) / 9223372036854775808 = 1
  · rw [if_pos hn, show b / 2 ^ 63 = 1 by omega]; rfl
  · rw [if_neg hn, show b / 2 ^ 63 = 0 by omega]; rfl
end Go.Proofs.Ytcgicojdmpjalab
