import Derived.Test.YtcgicojdmpjalabPlc
namespace Go.Proofs.Ytcgicojdmpjalab
open Go Go.RowKit Go.Sort
attribute [local go_sem] setCell_drewN alloc_drewN
theorem deg_some {n : Int} (h1 : -2147483648 ≤ n) (h2 : n ≤ 2147483647) : ∃ z, floatBits .quo .f64 (floatOfInt .f64 n) 4711630319722168320 = some z := by
  show ∃ z, Ieee.double.div (Ieee.double.nearest (decide (n < 0)) n.natAbs 0) 4711630319722168320 = some z
  have r1 : Ieee.double.read 0x416312D000000000 = .number false c7 (-29) := by decide +kernel
  by_cases h0 : n.natAbs = 0
  · rw [h0, decide_eq_false (by omega)]
    exact ⟨_, deg_zero.1⟩
  · obtain ⟨ra, _, _⟩ := whole_read (decide (n < 0)) h0 (by omega)
    have c0 : c7 ≠ 0 := by decide
    unfold Ieee.Format.div
    rw [ra, r1]
    simp only [Ieee.Datum.quotient, if_neg c0]
    exact ⟨_, rfl⟩
theorem a_degrees {n : Int} {z : Nat} (hz : floatBits .quo .f64 (floatOfInt .f64 n) 4711630319722168320 = some z) (w : World) : Calls Try.prog 5 #[.int .i32 n] w fun e w' => e = .returned (.float .f64 z) ∧ Below w.heap.size w w' := by
  have r6 := fun w : World => run_float_arith (P := Try.prog) w .quo 26 .f64 (floatOfInt .f64 n) 4711630319722168320 z hz
  have r7 := fun w : World => run_convert_int_float (P := Try.prog) (w := w) 21 26 .i32 .f64 n (by kernel_rfl) (by kernel_rfl)
  clear hz
  generalize floatOfInt .f64 n = y at *
  go_enter Try.func5, Try.ntmps5
  go_wp2
  go_ret
  exact ⟨rfl, .refl _ _⟩
end Go.Proofs.Ytcgicojdmpjalab
